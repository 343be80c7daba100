"""Beginnings: whether they are possible and whole, and the events that can come next."""

from soonsettled.errors import NotPossible
from soonsettled.reading import reading_of


def possible(schema, events):
    """Returns whether a beginning is possible."""
    try:
        reading_of(schema, ("all",), events)
    except NotPossible:
        return False
    return True


def next_events(schema, events):
    """Returns the list of the events that can come next, in the order of point 5; raises NotPossible."""
    return reading_of(schema, ("all",), events).next_events()


def whole(schema, events):
    """Returns whether these are all events of a document of the schema; raises NotPossible."""
    return reading_of(schema, ("all",), events).is_whole()
