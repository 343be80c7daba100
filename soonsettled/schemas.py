"""Schemas: reading and printing their texts."""

from soonsettled.errors import TextError
from soonsettled.tokens import Reader
from soonsettled.trees import ALONE, joined, separated, written

SIGNS = "=()|;*+?"
KINDS = {"*": "many", "+": "some", "?": "maybe"}
MARKS = {"many": "*", "some": "+", "maybe": "?"}

MOST_RULES = 6
MOST_WORDS = 16

# The places of a content in a text behind ALONE, the loosest first.
IN_CHOICE = 1
IN_ROW = 2
MARKED = 3
# The tightest place at which each kind of content stands without parentheses round it.
TIGHTEST = {"choice": 0, "row": 1, "many": 2, "some": 2, "maybe": 2, "type": 3}


def content_of(rows):
    """Returns the content whose rows these are, each a list of its parts; a single empty one is empty."""
    if rows == [[]]:
        return ("empty",)
    return joined("choice", [joined("row", parts) for parts in rows])


class SchemaReader(Reader):
    """Reads the text of a schema, and keeps where its types stand."""

    def __init__(self, text):
        super().__init__(text, SIGNS)
        self.first = self.place
        self.defined = []
        self.used = []

    def read_schema(self):
        """Reads all rules up to the end of the text, and returns the schema."""
        rules = [self.read_rule()]
        while self.token == ";":
            self.step()
            rules.append(self.read_rule())
        self.read_end()
        return tuple(rules)

    def read_rule(self):
        """Reads a rule and returns it."""
        self.defined.append((self.token, self.place))
        word = self.read_name()
        self.read_sign("=")
        name = self.read_name()
        self.read_sign("(")
        return (word, name, self.read_content())

    def read_content(self):
        """Reads what stands behind a "(" and the ")" that belongs to it, and returns the content."""
        # The rows so far of each parenthesis that is not closed; no recursion, for there can be many.
        levels = [[[]]]
        while True:
            rows = levels[-1]
            if self.token == "(":
                self.step()
                levels.append([[]])
            elif self.token == "|" and rows[-1]:
                self.step()
                rows.append([])
            elif self.token == ")" and (rows[-1] or len(rows) == 1):
                self.step()
                levels.pop()
                if not levels:
                    return content_of(rows)
                levels[-1][-1].append(self.read_mark(content_of(rows)))
            else:
                self.used.append((self.token, self.place))
                word = self.read_name()
                rows[-1].append(self.read_mark(("type", word)))

    def read_mark(self, content):
        """Reads the sign behind a content if there is one, and returns the content with it."""
        if self.token not in KINDS:
            return content
        kind = KINDS[self.token]
        self.step()
        return (kind, content)

    def check(self):
        """Raises the first error that a text can have although it follows the grammar."""
        known = {}
        for word, place in self.defined:
            if word in known:
                raise TextError(place, "type twice")
            known[word] = True
        for word, place in self.used:
            if word not in known:
                raise TextError(place, "no such type")
        if len(self.defined) > MOST_RULES:
            raise TextError(self.first, "too many types")
        if len(self.used) > MOST_WORDS:
            raise TextError(self.first, "too many parts")


def parse_schema(text):
    """Returns the schema whose text this is; raises TextError."""
    reader = SchemaReader(text)
    schema = reader.read_schema()
    reader.check()
    return schema


def pieces_of(content, place):
    """Returns the list of strings, and of contents with their places, that the text of a content consists of."""
    kind = content[0]
    if kind == "empty":
        return ["()"]
    if place > TIGHTEST[kind]:
        return ["(", (content, ALONE), ")"]
    if kind == "type":
        return [content[1]]
    if kind == "choice":
        return separated(content[1], " | ", IN_CHOICE)
    if kind == "row":
        return separated(content[1], " ", IN_ROW)
    return [(content[1], MARKED), MARKS[kind]]


def rule_text(rule):
    """Returns the canonical text of a rule."""
    word, name, content = rule
    if content == ("empty",):
        return f"{word} = {name}()"
    return f"{word} = {name}({written(content, pieces_of)})"


def print_schema(schema):
    """Returns the canonical text of a schema."""
    return "; ".join([rule_text(rule) for rule in schema])
