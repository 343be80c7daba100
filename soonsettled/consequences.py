"""Whether a condition follows from another one in all documents of a schema, and whether it can hold at all."""

from soonsettled.documents import document_of
from soonsettled.meaning import holding
from soonsettled.reading import first_of
from soonsettled.ways import Ways


def follows(schema, first, second):
    """Returns None if the second condition follows from the first one in a schema.

    Otherwise (events, number) is returned: the events of the first document in which the first condition holds at an
    element and the second one does not, and the least number of such an element.
    """
    return satisfiable(schema, ("and", (first, ("not", second))))


def satisfiable(schema, condition):
    """Returns None if a condition holds at no element of any document of a schema.

    Otherwise (events, number) is returned: the events of the first document in which it holds at an element, and the
    least number of such an element.
    """
    ways = Ways(schema, ("or", (condition, ("below", condition))))
    events = first_of([ways.bodies[label] for label in ways.root_labels if label in ways.bodies and ways.wanted[label]])
    if events is None:
        return None
    return (events, holding(condition, document_of(events))[0])
