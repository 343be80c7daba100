"""Conditions: reading and printing their texts."""

from soonsettled.errors import TextError
from soonsettled.tokens import Reader
from soonsettled.trees import ALONE, joined, numbered, parts_of, separated, written

LOOKS = ("child", "below", "parent", "above", "earlier", "later")

MOST_PARTS = 12
MOST_LOOKS = 4

# The places of a condition in a text behind ALONE, the loosest first.
TERM = 1
FACTOR = 2
# The tightest place at which each kind of condition stands without parentheses round it; FACTOR for the others.
TIGHTEST = {"or": 0, "and": 1}


class Group:
    """What has been read of a condition: the factors of each term, and the words that the next factor is behind."""

    def __init__(self):
        self.terms = [[]]
        self.words = []

    def take_word(self, word):
        """Takes a word that the next factor is behind."""
        self.words.append(word)

    def take_factor(self, factor):
        """Takes the next factor of the last term."""
        while self.words:
            factor = (self.words.pop(), factor)
        self.terms[-1].append(factor)

    def begin_term(self):
        """Begins the next term."""
        self.terms.append([])

    def condition(self):
        """Returns the condition."""
        return joined("or", [joined("and", factors) for factors in self.terms])


class ConditionReader(Reader):
    """Reads the text of a condition."""

    def __init__(self, text):
        super().__init__(text, "()")
        self.first = self.place
        # One for the text and one for each parenthesis that is not closed; no recursion, for there can be many.
        self.groups = [Group()]

    def read_condition(self):
        """Reads everything up to the end of the text, and returns the condition."""
        while True:
            if self.token == "(":
                self.step()
                self.groups.append(Group())
            elif self.token == "not" or self.token in LOOKS:
                self.groups[-1].take_word(self.token)
                self.step()
            else:
                self.groups[-1].take_factor(self.read_plain())
                self.read_closed()
                if self.token == "" and len(self.groups) == 1:
                    return self.groups[0].condition()
                self.read_joint()

    def read_plain(self):
        """Reads a factor that has no other one in it, and returns it."""
        kind = self.token
        if kind not in ("all", "none", "is"):
            self.refuse()
        self.step()
        if kind == "is":
            return (kind, self.read_name())
        return (kind,)

    def read_closed(self):
        """Reads all ")" that stand here; what each of them closes is a factor of the group around it."""
        while self.token == ")" and len(self.groups) > 1:
            self.step()
            closed = self.groups.pop()
            self.groups[-1].take_factor(closed.condition())

    def read_joint(self):
        """Reads what stands between a factor and the next one."""
        if self.token == "or":
            self.groups[-1].begin_term()
        elif self.token != "and":
            self.refuse()
        self.step()

    def check_size(self, condition):
        """Raises the error of a condition that is too large."""
        parts = numbered(condition, parts_of)
        if len(parts) > MOST_PARTS:
            raise TextError(self.first, "too many parts")
        looks = [part for part, _ in parts if part[0] in LOOKS]
        if len(looks) > MOST_LOOKS:
            raise TextError(self.first, "too many looks")


def parse_condition(text):
    """Returns the condition whose text this is; raises TextError."""
    reader = ConditionReader(text)
    condition = reader.read_condition()
    reader.check_size(condition)
    return condition


def pieces_of(condition, place):
    """Returns the list of strings, and of conditions with their places, that the text of a condition consists of."""
    kind = condition[0]
    if place > TIGHTEST.get(kind, FACTOR):
        return ["(", (condition, ALONE), ")"]
    if kind == "or":
        return separated(condition[1], " or ", TERM)
    if kind == "and":
        return separated(condition[1], " and ", FACTOR)
    if kind == "is":
        return [f"is {condition[1]}"]
    if kind in ("all", "none"):
        return [kind]
    return [f"{kind} ", (condition[1], FACTOR)]


def print_condition(condition):
    """Returns the canonical text of a condition."""
    return written(condition, pieces_of)
