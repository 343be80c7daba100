"""The labels of elements: the type that an element is read as, and which looks of a condition hold at it."""

from soonsettled.conditions import LOOKS
from soonsettled.meaning import holds_without_looks
from soonsettled.trees import folded, numbered, parts_of


def looks_of(condition):
    """Returns the list of the different looks in a condition."""
    looks = []
    for part, _ in numbered(condition, parts_of):
        if part[0] in LOOKS and part not in looks:
            looks.append(part)
    return looks


def bits_of(looks, kinds):
    """Returns the set of those looks that are of one of these kinds."""
    bits = 0
    for at, look in enumerate(looks):
        if look[0] in kinds:
            bits |= 1 << at
    return bits


def parts_up_to_looks(condition):
    """Returns the tuple of the conditions directly in a condition, none if it is a look."""
    return () if condition[0] in LOOKS else parts_of(condition)


class Labels:
    """The labels that an element can have with a schema and a condition.

    A label is a number; it stands for a type and a set of looks. A set of looks is an integer, with bit k for look k.
    What is behind a child, for the further children, is a set of looks, too: of child, below and earlier those whose
    condition held so far (for below also below a child), of later those whose condition is to hold still.
    """

    def __init__(self, schema, condition):
        self.looks = looks_of(condition)
        self.later = bits_of(self.looks, ("later",))
        # The looks that are told by the children of an element, those told by what is before or behind it, and by
        # what is above it.
        self.inward = bits_of(self.looks, ("child", "below"))
        self.sideward = bits_of(self.looks, ("earlier", "later"))
        self.upward = bits_of(self.looks, ("parent", "above"))
        # The number of the rule of each label, the name, and the looks that hold.
        self.rules = [rule for rule in range(len(schema)) for _ in range(self.count_of_sets())]
        self.names = [schema[rule][1] for rule in self.rules]
        self.held = [held for _ in schema for held in range(self.count_of_sets())]
        # Whether the condition holds at an element with each label.
        self.wanted = self.truth_of(condition)
        self.find_bits()
        # The labels of each rule that need the same of their place.
        self.fitting = {}
        for label, rule in enumerate(self.rules):
            self.fitting.setdefault((rule, self.needs[label]), []).append(label)

    def count_of_sets(self):
        """Returns the number of the sets of looks."""
        return 1 << len(self.looks)

    def truth_of(self, condition):
        """Returns where a condition holds, as a list of True or False by label."""
        return folded(condition, parts_up_to_looks, lambda part, parts: self.truth_of_part(part, parts))

    def truth_of_part(self, condition, parts):
        """Returns the same for a condition if parts has the lists of those directly in it, and none for a look."""
        if condition[0] in LOOKS:
            look = self.looks.index(condition)
            return [held >> look & 1 == 1 for held in self.held]
        return holds_without_looks(self.names, condition, parts)

    def find_bits(self):
        """Finds the sets of looks that tell which labels can stand beside and within each other."""
        truths = [self.truth_of(look[1]) for look in self.looks]
        # The looks whose own condition holds at an element with each label.
        inner = [sum([1 << at for at, truth in enumerate(truths) if truth[label]]) for label in range(len(self.rules))]
        pairs = list(zip(inner, self.held))
        above = bits_of(self.looks, ("above",))
        below = bits_of(self.looks, ("below",))
        earlier = self.sideward & ~self.later
        # Of its place a label needs the looks upward and earlier that hold at it, and, of what is behind the child
        # before it, the looks later whose condition holds at it or behind it.
        self.needs = [held & (self.upward | earlier) | (own | held) & self.later for own, held in pairs]
        # What it adds to what is behind it.
        self.adds = [own & (self.inward | earlier) | held & (below | self.later) for own, held in pairs]
        # The looks upward that hold at each of its children.
        self.offers = [own & self.upward | held & above for own, held in pairs]

    def roots(self):
        """Returns the list of the labels that a document can have: it is in no element, and beside none."""
        outward = self.upward | self.sideward
        return [label for label, rule in enumerate(self.rules) if rule == 0 and self.held[label] & outward == 0]

    def starts(self):
        """Returns the list of what can stand for what is behind a child in front of the first child."""
        return [behind for behind in range(self.count_of_sets()) if behind & ~self.later == 0]

    def children(self, label, rule, behind):
        """Returns the list of (child, behind the child) for the children of this rule in an element with the label.

        They are those that can stand behind what is passed.
        """
        found = []
        for child in self.fitting.get((rule, self.offers[label] | behind & self.sideward), ()):
            after = behind & ~self.later | self.adds[child]
            if after & self.inward & ~self.held[label] == 0:
                found.append((child, after))
        return found

    def allow_end(self, label, behind):
        """Returns whether an element with this label can end with this behind its last child."""
        return behind & (self.inward | self.later) == self.held[label] & self.inward
