"""What a beginning settles: which elements the condition holds at, how it must go on, and how it can end."""

from soonsettled.reading import reading_of


def settled(schema, condition, events):
    """Returns the list of "in", "out" or "open" for the elements that have begun, by number; raises NotPossible."""
    return reading_of(schema, condition, events).answers()


def least_end(schema, events):
    """Returns the least end of a beginning; raises NotPossible."""
    # The condition holds at element 0 whatever the end is, also before the element has begun.
    return end_with(schema, ("all",), events, 0, True)


def forced(schema, events):
    """Returns the list of the forced events of a beginning; raises NotPossible."""
    reading = reading_of(schema, ("all",), events)
    found = []
    coming = reading.next_events()
    while len(coming) == 1:
        found.append(coming[0])
        reading = reading.read(coming[0])
        coming = reading.next_events()
    return found


def end_with(schema, condition, events, number, holds):
    """Returns the first end with which the condition holds, or does not hold, at the element with this number.

    None is returned if there is no such end; raises NotPossible.
    """
    return reading_of(schema, condition, events).first_end(number, holds)
