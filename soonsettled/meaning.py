"""What schemas and conditions say of a document: the types that it is of, and where a condition holds."""

from soonsettled.trees import children_of, folded, numbered, parts_of
from soonsettled.words import Words


def types_of(schema, document):
    """Returns the list of the types that a document is of, in the order of the rules."""
    readers = [Words(content) for _, _, content in schema]

    def types_with(element, children):
        """Returns the list of the types of an element whose children are of these types."""
        return [rule[0] for rule, words in zip(schema, readers) if rule[1] == element[0] and words.fit(children)]

    return folded(document, children_of, types_with)


def conforms(schema, document):
    """Returns whether a document is of a schema."""
    return schema[0][0] in types_of(schema, document)


class Family:
    """The elements of a document by number: the names, the parents (None for the document), the lists of children."""

    def __init__(self, document):
        nodes = numbered(document, children_of)
        self.names = [element[0] for element, _ in nodes]
        self.rows = [numbers for _, numbers in nodes]
        self.parents = [None] * len(nodes)
        for number, row in enumerate(self.rows):
            for child in row:
                self.parents[child] = number


# Each of the next functions is told the elements at which a condition holds, as a list of True or False by number,
# and returns those at which a look of it holds in the same way. Element 0 is the only one without a parent.

def holds_child(family, holds):
    """Tells at which elements the condition holds at some child."""
    return [any([holds[child] for child in row]) for row in family.rows]


def holds_below(family, holds):
    """Tells at which elements the condition holds at some element below."""
    found = [False] * len(holds)
    for number in range(len(holds) - 1, 0, -1):
        if holds[number] or found[number]:
            found[family.parents[number]] = True
    return found


def holds_parent(family, holds):
    """Tells at which elements the condition holds at the parent."""
    return [parent is not None and holds[parent] for parent in family.parents]


def holds_above(family, holds):
    """Tells at which elements the condition holds at some element above."""
    found = [False] * len(holds)
    for number in range(1, len(holds)):
        parent = family.parents[number]
        found[number] = holds[parent] or found[parent]
    return found


def holds_before(rows, holds):
    """Tells which elements have one at which the condition holds before them in their row."""
    found = [False] * len(holds)
    for row in rows:
        met = False
        for number in row:
            found[number] = met
            met = met or holds[number]
    return found


def holds_earlier(family, holds):
    """Tells at which elements the condition holds at some child of the same parent that begins before."""
    return holds_before(family.rows, holds)


def holds_later(family, holds):
    """Tells at which elements the condition holds at some child of the same parent that begins behind."""
    return holds_before([row[::-1] for row in family.rows], holds)


FINDERS = {
    "child": holds_child, "below": holds_below, "parent": holds_parent, "above": holds_above,
    "earlier": holds_earlier, "later": holds_later,
}


def holds_without_looks(names, condition, parts):
    """Returns where a condition that is no look holds, as a list of True or False by number.

    names has the names of the elements by number, parts these lists of the conditions directly in the condition.
    """
    kind = condition[0]
    if kind == "is":
        return [name == condition[1] for name in names]
    if kind == "not":
        return [not held for held in parts[0]]
    # What is left is an and or an or of its parts: all is an and that has none, none is an or that has none.
    if kind in ("all", "and"):
        return [all([part[number] for part in parts]) for number in range(len(names))]
    return [any([part[number] for part in parts]) for number in range(len(names))]


def holds_of(family, condition, parts):
    """Returns where a condition holds, as a list of True or False by number; parts has these lists of its parts."""
    kind = condition[0]
    if kind in FINDERS:
        finder = FINDERS[kind]
        return finder(family, parts[0])
    return holds_without_looks(family.names, condition, parts)


def holding(condition, document):
    """Returns the list of the numbers of the elements at which a condition holds, ascending."""
    family = Family(document)
    holds = folded(condition, parts_of, lambda part, parts: holds_of(family, part, parts))
    return [number for number, held in enumerate(holds) if held]
