"""Another way to find the first error of a text: it follows the grammars by all stacks of symbols at once."""

import ast
import re

# Point 9's grammar; "inside" is [ content ].
SCHEMA = {
    "start": [["rule", "rules"]],
    "rules": [[], [";", "rule", "rules"]],
    "rule": [["word", "=", "word", "(", "inside", ")"]],
    "inside": [[], ["content"]],
    "content": [["row", "rows"]],
    "rows": [[], ["|", "row", "rows"]],
    "row": [["part", "parts"]],
    "parts": [[], ["part", "parts"]],
    "part": [["core"], ["core", "*"], ["core", "+"], ["core", "?"]],
    "core": [["word"], ["(", "inside", ")"]],
}
SCHEMA_SIGNS = "=()|;*+?"

# Point 6's texts: "elem" is an element with its end, "cut" one without.
BEGINNING = {
    "start": [[], ["elem"], ["cut"]],
    "elem": [["word", "(", "elems", ")"]],
    "elems": [[], ["elem", "elems"]],
    "cut": [["word", "(", "elems"], ["word", "(", "elems", "cut"]],
}
BEGINNING_SIGNS = "()"

# Point 12's grammar; the words that it names are symbols of their own, and each of them is a word, too.
CONDITION = {
    "start": [["condition"]],
    "condition": [["term", "terms"]],
    "terms": [[], ["or", "term", "terms"]],
    "term": [["factor", "factors"]],
    "factors": [[], ["and", "factor", "factors"]],
    "factor": [["all"], ["none"], ["is", "word"], ["(", "condition", ")"], ["prefix", "factor"]],
    "prefix": [["not"], ["child"], ["below"], ["parent"], ["above"], ["earlier"], ["later"]],
}
CONDITION_SIGNS = "()"
CONDITION_WORDS = ("all", "none", "is", "and", "or", "not", "child", "below", "parent", "above", "earlier", "later")
LOOKS = CONDITION_WORDS[6:]


def tokens(text):
    """Returns the list of (token, place) of a text, unknown characters being tokens."""
    return [(m.group(), m.start()) for m in re.finditer(r"[a-z]+|[^ \n]", text)]


def _expanded(grammar, stacks):
    found = set()
    waiting = list(stacks)
    while waiting:
        stack = waiting.pop()
        if stack and stack[0] in grammar:
            waiting.extend(tuple(body) + stack[1:] for body in grammar[stack[0]])
        else:
            found.add(stack)
    return found


def grammar_error(grammar, signs, text):
    """Returns (place, message) of the first error that concerns characters or the grammar, or None."""
    found = tokens(text)
    for token, place in found:
        if not token[0].islower() and token not in signs:
            return place, "unknown character"
    stacks = _expanded(grammar, {("start",)})
    for token, place in found:
        symbols = [token]
        if token[0].islower():
            symbols = ["word"] if len(token) <= 8 else ["long"]
            if token in CONDITION_WORDS:
                symbols.append(token)
        stacks = _expanded(grammar, {stack[1:] for stack in stacks if stack and stack[0] in symbols})
        if not stacks:
            return place, "unexpected token"
    if () not in stacks:
        return len(text), "unexpected end"
    return None


def events_error(text):
    """Returns (place, message) of the error of a text of a beginning, or None."""
    return grammar_error(BEGINNING, BEGINNING_SIGNS, text)


def schema_error(text):
    """Returns (place, message) of the error of a text of a schema, or None."""
    error = grammar_error(SCHEMA, SCHEMA_SIGNS, text)
    if error:
        return error
    found = tokens(text)
    words = [k for k in range(len(found)) if found[k][0][0].islower()]
    defined = [k for k in words if found[k + 1][0] == "="]
    used = [k for k in words if k not in defined and found[k - 1][0] != "="]
    names = [found[k][0] for k in defined]
    for at, k in enumerate(defined):
        if names[at] in names[:at]:
            return found[k][1], "type twice"
    for k in used:
        if found[k][0] not in names:
            return found[k][1], "no such type"
    if len(defined) > 6:
        return found[0][1], "too many types"
    if len(used) > 16:
        return found[0][1], "too many parts"
    return None


def condition_of(text):
    """Returns the condition whose text this is, by way of Python's own grammar: its "and" and "or" stand likewise."""
    codes = dict(zip(("not",) + LOOKS, ("--", "-+", "-~", "+-", "++", "+~", "~-")))
    text = re.sub(r"\bis\s+([a-z]+)", lambda found: "IS_" + found.group(1).upper(), text)
    text = re.sub(r"\b(" + "|".join(codes) + r")\b", lambda found: codes[found.group(1)], text)
    return _condition_of_node(ast.parse(text.replace("\n", " ").strip(), mode="eval").body)


def _condition_of_node(node):
    if isinstance(node, ast.Name):
        return ("is", node.id[3:].lower()) if node.id.startswith("IS_") else (node.id,)
    if isinstance(node, ast.UnaryOp):
        code = (type(node.op), type(node.operand.op))
        signs = [(first, second) for first in (ast.USub, ast.UAdd, ast.Invert)
                 for second in (ast.USub, ast.UAdd, ast.Invert)]
        return ((("not",) + LOOKS)[signs.index(code)], _condition_of_node(node.operand.operand))
    kind = {ast.And: "and", ast.Or: "or"}[type(node.op)]
    parts = []
    for value in node.values:
        part = _condition_of_node(value)
        parts.extend(part[1] if part[0] == kind else [part])
    return (kind, tuple(parts))


def condition_error(text):
    """Returns (place, message) of the error of a text of a condition, or None."""
    error = grammar_error(CONDITION, CONDITION_SIGNS, text)
    if error:
        return error
    kinds = kinds_of(condition_of(text))
    place = tokens(text)[0][1]
    if len(kinds) > 12:
        return place, "too many parts"
    if len([kind for kind in kinds if kind in LOOKS]) > 4:
        return place, "too many looks"
    return None


def kinds_of(condition):
    """Returns the kinds of all conditions within one, itself included, each as often as it stands there."""
    inner = [part for part in condition[1:] if isinstance(part, tuple)]
    if condition[0] in ("and", "or"):
        inner = condition[1]
    return [condition[0]] + [kind for part in inner for kind in kinds_of(part)]


def changed(text, pool):
    """Returns texts that differ from this one in a token: left out, put in, changed, or cut off behind it."""
    words = [token for token, _ in tokens(text)]
    rows = []
    for k in range(len(words) + 1):
        rows.append(words[:k])
        rows.append(words[:k] + words[k + 1:])
        for token in pool:
            rows.append(words[:k] + [token] + words[k:])
            rows.append(words[:k] + [token] + words[k + 1:])
    return [" ".join(row) for row in rows]
