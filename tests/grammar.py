"""Another way to find the first error of a text: it follows the grammars by all stacks of symbols at once."""

import re

# Point 9's grammar; "inside" is [ content ].
SCHEMA = {
    "start": [["rule", "rules"]],
    "rules": [[], [";", "rule", "rules"]],
    "rule": [["word", "=", "word", "(", "inside", ")"]],
    "inside": [[], ["content"]],
    "content": [["row", "rows"]],
    "rows": [[], ["|", "row", "rows"]],
    "row": [["part", "parts"]],
    "parts": [[], ["part", "parts"]],
    "part": [["core"], ["core", "*"], ["core", "+"], ["core", "?"]],
    "core": [["word"], ["(", "inside", ")"]],
}
SCHEMA_SIGNS = "=()|;*+?"

# Point 6's texts: "elem" is an element with its end, "cut" one without.
BEGINNING = {
    "start": [[], ["elem"], ["cut"]],
    "elem": [["word", "(", "elems", ")"]],
    "elems": [[], ["elem", "elems"]],
    "cut": [["word", "(", "elems"], ["word", "(", "elems", "cut"]],
}
BEGINNING_SIGNS = "()"


def tokens(text):
    """Returns the list of (token, place) of a text, unknown characters being tokens."""
    return [(m.group(), m.start()) for m in re.finditer(r"[a-z]+|[^ \n]", text)]


def _expanded(grammar, stacks):
    found = set()
    waiting = list(stacks)
    while waiting:
        stack = waiting.pop()
        if stack and stack[0] in grammar:
            waiting.extend(tuple(body) + stack[1:] for body in grammar[stack[0]])
        else:
            found.add(stack)
    return found


def grammar_error(grammar, signs, text):
    """Returns (place, message) of the first error that concerns characters or the grammar, or None."""
    found = tokens(text)
    for token, place in found:
        if not token[0].islower() and token not in signs:
            return place, "unknown character"
    stacks = _expanded(grammar, {("start",)})
    for token, place in found:
        symbol = token
        if token[0].islower():
            symbol = "word" if len(token) <= 8 else "long"
        stacks = _expanded(grammar, {stack[1:] for stack in stacks if stack and stack[0] == symbol})
        if not stacks:
            return place, "unexpected token"
    if () not in stacks:
        return len(text), "unexpected end"
    return None


def events_error(text):
    """Returns (place, message) of the error of a text of a beginning, or None."""
    return grammar_error(BEGINNING, BEGINNING_SIGNS, text)


def schema_error(text):
    """Returns (place, message) of the error of a text of a schema, or None."""
    error = grammar_error(SCHEMA, SCHEMA_SIGNS, text)
    if error:
        return error
    found = tokens(text)
    words = [k for k in range(len(found)) if found[k][0][0].islower()]
    defined = [k for k in words if found[k + 1][0] == "="]
    used = [k for k in words if k not in defined and found[k - 1][0] != "="]
    names = [found[k][0] for k in defined]
    for at, k in enumerate(defined):
        if names[at] in names[:at]:
            return found[k][1], "type twice"
    for k in used:
        if found[k][0] not in names:
            return found[k][1], "no such type"
    if len(defined) > 6:
        return found[0][1], "too many types"
    if len(used) > 16:
        return found[0][1], "too many parts"
    return None


def changed(text, pool):
    """Returns texts that differ from this one in a token: left out, put in, changed, or cut off behind it."""
    words = [token for token, _ in tokens(text)]
    rows = []
    for k in range(len(words) + 1):
        rows.append(words[:k])
        rows.append(words[:k] + words[k + 1:])
        for token in pool:
            rows.append(words[:k] + [token] + words[k:])
            rows.append(words[:k] + [token] + words[k + 1:])
    return [" ".join(row) for row in rows]
