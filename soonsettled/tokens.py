"""The tokens that texts consist of, and a reader that goes over them."""

from soonsettled.errors import TextError

LETTERS = "abcdefghijklmnopqrstuvwxyz"
LONGEST_NAME = 8


def word_end(text, start):
    """Returns the index behind the letters that stand from this one on."""
    at = start
    while at < len(text) and text[at] in LETTERS:
        at += 1
    return at


def tokens_of(text, signs):
    """Returns the list of (token, place) of a text, the last one being the empty token of its end."""
    tokens = []
    at = 0
    while at < len(text):
        behind = word_end(text, at)
        if behind > at:
            tokens.append((text[at:behind], at))
            at = behind
        elif text[at] in signs:
            tokens.append((text[at], at))
            at += 1
        elif text[at] in " \n":
            at += 1
        else:
            raise TextError(at, "unknown character")
    tokens.append(("", len(text)))
    return tokens


class Reader:
    """Goes over the tokens of a text; token and place are those of the next one, token is "" at the end."""

    def __init__(self, text, signs):
        # All tokens are found at once: an unknown character counts before every other error.
        self.tokens = tokens_of(text, signs)
        self.at = 0
        self.token, self.place = self.tokens[0]

    def step(self):
        """Goes on to the token behind the next one."""
        self.at += 1
        self.token, self.place = self.tokens[self.at]

    def refuse(self):
        """Raises the error of a next token that cannot stand here."""
        if self.token == "":
            raise TextError(self.place, "unexpected end")
        raise TextError(self.place, "unexpected token")

    def read_name(self):
        """Reads a word that stands as a name or a type, and returns it."""
        word = self.token
        if not word.isalpha() or len(word) > LONGEST_NAME:
            self.refuse()
        self.step()
        return word

    def read_sign(self, sign):
        """Reads this sign."""
        if self.token != sign:
            self.refuse()
        self.step()

    def read_end(self):
        """Makes sure that no token is left."""
        if self.token != "":
            self.refuse()
