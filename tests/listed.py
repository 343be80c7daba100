"""Schemas with the lists of their documents, and what these lists tell: a second way to all answers of stage 3."""

import itertools

from soonsettled.documents import document_of, events_of
from tests.samples import EMPTY, LOOKS, plain_holding, random_condition, words_of

# A type that no element has, for it needs one more of itself below.
DEAD = ("x", "a", ("some", ("type", "x")))
MOST_DOCUMENTS = 40


def order(events):
    """Returns the key of the order of point 5."""
    return (len(events), events)


def documents_up_to(schema, most):
    """Returns the events of all documents of a schema with at most that many elements, in the order of point 5."""
    found = {rule[0]: [set() for _ in range(most + 1)] for rule in schema}
    words = {rule[0]: words_of(rule[2], most - 1) for rule in schema}
    for size in range(1, most + 1):
        for word, name, _ in schema:
            found[word][size] = {(name, row) for types in words[word] for row in rows_of(found, types, size - 1)}
    documents = [document for size in range(most + 1) for document in found[schema[0][0]][size]]
    return sorted([events_of(document) for document in documents], key=order)


def rows_of(found, types, size):
    """Returns the rows of elements of these types with that many elements together."""
    if not types:
        return [()] if size == 0 else []
    return [(first,) + rest for k in range(1, size - len(types) + 2)
            for first in found[types[0]][k] for rest in rows_of(found, types[1:], size - k)]


def few_documents(schema):
    """Returns the events of all documents of a schema, or None if these are many.

    In the content of a rule only later types and the dead one stand.
    """
    found = {"x": []}
    for word, name, content in schema[::-1]:
        if word != "x":
            rows = [itertools.product(*[found[part] for part in types]) for types in words_of(content, 9)]
            found[word] = {(name, row) for row in itertools.islice(itertools.chain(*rows), 9 * MOST_DOCUMENTS)}
            if len(found[word]) > MOST_DOCUMENTS:
                return None
    return sorted([events_of(document) for document in found[schema[0][0]]], key=order)


def finite_content(random, types, deep, outer=""):
    """Returns a content of these types without a type that may stand more and more often."""
    if not types or deep == 1 or random.random() < 0.2:
        return ("type", random.choice(types)) if types and random.random() < 0.8 else EMPTY
    kind = random.choice([kind for kind in ("row", "choice", "maybe", "row") if kind != outer])
    if kind == "maybe":
        return (kind, finite_content(random, types, deep - 1))
    return (kind, tuple(finite_content(random, types, deep - 1, kind) for _ in range(random.randint(2, 3))))


def finite_schema(random, names="ab"):
    """Returns a schema of at most five types with finitely many documents; the dead type may stand somewhere."""
    types = "stuv"[:random.randint(2, 4)]
    rules = [(word, random.choice(names), finite_content(random, types[at + 1:], 3)) for at, word in enumerate(types)]
    if random.random() < 0.4:
        at = random.randrange(len(rules))
        word, name, content = rules[at]
        if content[0] not in ("row", "choice"):
            dead = ("type", "x")
            around = random.choice([
                ("choice", (content, dead)), ("row", (content, ("many", dead))), ("row", (("maybe", dead), content)),
                ("choice", (("some", dead), content)), ("row", (content, dead)),
            ])
            rules[at] = (word, name, around)
            rules.append(DEAD)
    return tuple(rules)


class Listed:
    """Documents of a schema, as lists of events in the order of point 5, and where a condition holds in them."""

    def __init__(self, documents, condition):
        self.documents = documents
        self.holding = [set(plain_holding(condition, document_of(events))) for events in documents]

    def beginnings(self):
        """Returns all beginnings, each once."""
        return sorted({tuple(events[:size]) for events in self.documents for size in range(len(events) + 1)})

    def with_beginning(self, events):
        """Returns the list of (end, numbers) for the documents with this beginning, in the order of point 5."""
        size = len(events)
        return [(document[size:], numbers) for document, numbers in zip(self.documents, self.holding)
                if document[:size] == events]

    def next_events(self, events):
        return sorted({end[0] for end, _ in self.with_beginning(events) if end})

    def end_with(self, events, number, holds):
        ends = [end for end, numbers in self.with_beginning(events) if (number in numbers) == holds]
        return ends[0] if ends else None

    def settled(self, events):
        ends = self.with_beginning(events)
        return [told_of([number in numbers for _, numbers in ends]) for number in range(count_of(events))]

    def forced(self, events):
        ends = [end for end, _ in self.with_beginning(events)]
        size = 0
        while all(len(end) > size and end[size] == ends[0][size] for end in ends):
            size += 1
        return ends[0][:size]

    def satisfiable(self):
        for events, numbers in zip(self.documents, self.holding):
            if numbers:
                return (events, min(numbers))
        return None


def told_of(answers):
    """Returns what is told of an element when the documents give these answers."""
    if all(answers):
        return "in"
    return "open" if any(answers) else "out"


def count_of(events):
    """Returns the number of the elements that have begun."""
    return len([event for event in events if event != ")"])


def difference(first, second):
    """Returns the condition that holds where the first one holds and the second one does not."""
    return ("and", (first, ("not", second)))


def tuples_in(condition):
    """Returns the list of the tuples of a condition, each as often as it stands there."""
    if condition[0] in ("all", "none", "is"):
        return [condition]
    inner = condition[1] if condition[0] in ("and", "or") else (condition[1],)
    return [condition] + [part for outer in inner for part in tuples_in(outer)]


def looks_in(condition):
    """Returns the set of the different looks in a condition."""
    return {part for part in tuples_in(condition) if part[0] in LOOKS}


def random_looks(random, most=4, deep=4):
    """Returns a condition within the limits of point 13 with some look, and at most that many different ones."""
    while True:
        condition = random_condition(random, deep)
        if 0 < len(looks_in(condition)) <= most and len(tuples_in(condition)) <= 12:
            return condition
