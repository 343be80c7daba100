"""Documents, contents, schemas and conditions that tests try in numbers, and plain ways to tell what they mean."""

import itertools

EMPTY = ("empty",)
S = ("type", "s")
T = ("type", "t")
SIGN_KINDS = ("many", "some", "maybe")
LOOKS = ("child", "below", "parent", "above", "earlier", "later")


def leaf(name):
    return (name, ())


def all_documents(size, names="ab"):
    """Returns all documents of exactly that many elements with these names."""
    return [(name, row) for name in names for row in all_rows(size - 1, names)]


def all_rows(size, names="ab"):
    """Returns all tuples of elements that have that many elements together."""
    if size == 0:
        return [()]
    return [(first,) + rest for k in range(1, size + 1)
            for first in all_documents(k, names) for rest in all_rows(size - k, names)]


def many(content):
    return ("many", content)


def some(content):
    return ("some", content)


def maybe(content):
    return ("maybe", content)


def row(*contents):
    return ("row", contents)


def choice(*contents):
    return ("choice", contents)


def small_contents():
    """Returns many contents of up to four levels."""
    level = [S, T, EMPTY]
    level = level + [f(c) for f in (many, some, maybe) for c in level] + pairs(level, level)
    level = level + [f(c) for f in (many, some, maybe) for c in level] + pairs(level, level)
    return level + [f(c) for f in (many, some, maybe) for c in level] + pairs(level, [S, many(T)])


def pairs(firsts, seconds):
    """Returns the rows and the choices of two of these."""
    rows = [row(a, b) for a in firsts for b in seconds if a[0] != "row" and b[0] != "row"]
    return rows + [choice(a, b) for a in firsts for b in seconds if a[0] != "choice" and b[0] != "choice"]


def random_content(random, types, deep, outer=""):
    """Returns a content of at most that many levels that may stand in an outer one."""
    kinds = [kind for kind in ("row", "choice") + SIGN_KINDS if kind != outer]
    if deep == 1 or random.random() < 0.3:
        return EMPTY if random.random() < 0.15 else ("type", random.choice(types))
    kind = random.choice(kinds)
    if kind in SIGN_KINDS:
        return (kind, random_content(random, types, deep - 1))
    return (kind, tuple(random_content(random, types, deep - 1, kind) for _ in range(random.randint(2, 3))))


def random_schema(random, names="ab"):
    """Returns a schema of at most four types, several of which may have the same name."""
    types = "stuv"[:random.randint(1, 4)]
    return tuple((word, random.choice(names), random_content(random, types, 3)) for word in types)


def random_document(random, deep, names="ab"):
    """Returns a document of at most that many levels."""
    many_children = random.randint(0, 4) if deep > 1 else 0
    return (random.choice(names), tuple(random_document(random, deep - 1, names) for _ in range(many_children)))


def random_condition(random, deep, outer=""):
    """Returns a condition of at most that many levels that may stand in an outer one."""
    if deep == 1 or random.random() < 0.2:
        return random.choice([("all",), ("none",), ("is", "a"), ("is", "b"), ("is", "a")])
    kind = random.choice([kind for kind in ("not", "and", "or", "and", "or") + LOOKS if kind != outer])
    if kind in ("and", "or"):
        return (kind, tuple(random_condition(random, deep - 1, kind) for _ in range(random.randint(2, 3))))
    return (kind, random_condition(random, deep - 1))


def small_conditions():
    """Returns many conditions of up to three levels, all kinds within all others."""
    words = ("not",) + LOOKS
    first = [("all",), ("none",), ("is", "a")]
    second = [(word, c) for word in words for c in first] + condition_pairs(first, first)
    return first + second + [(word, c) for word in words for c in second] + condition_pairs(second, first + second)


def condition_pairs(firsts, seconds):
    """Returns the ands and the ors of two of these."""
    return [(kind, (a, b)) for kind in ("and", "or") for a in firsts for b in seconds if kind not in (a[0], b[0])]


def words_of(content, limit):
    """Returns the set of the words of a content with at most that many types, as point 8 tells them."""
    kind = content[0]
    if kind == "type":
        return {(content[1],)} if limit > 0 else set()
    if kind == "empty":
        return {()}
    if kind == "choice":
        return set().union(*[words_of(part, limit) for part in content[1]])
    if kind == "row":
        found = {()}
        for part in content[1]:
            found = behind(found, words_of(part, limit), limit)
        return found
    inner = words_of(content[1], limit)
    if kind == "maybe":
        return inner | {()}
    found = inner | {()} if kind == "many" else inner
    while True:
        more = found | behind(found, inner, limit)
        if more == found:
            return found
        found = more


def behind(firsts, seconds, limit):
    """Returns the words of one of the first and one of the second behind it."""
    return {a + b for a in firsts for b in seconds if len(a) + len(b) <= limit}


def plain_types(schema, element):
    """Returns the list of the types of an element, found by trying all words."""
    name, children = element
    kinds = [plain_types(schema, child) for child in children]
    found = []
    for word, rule_name, content in schema:
        words = words_of(content, len(children))
        rows = itertools.product(*kinds)
        if rule_name == name and any(types in words for types in rows):
            found.append(word)
    return found


def all_paths(document):
    """Returns the paths of the elements by number; a path is the tuple of the indexes that lead to the element."""
    paths = [()]
    for at, child in enumerate(document[1]):
        paths += [(at,) + path for path in all_paths(child)]
    return paths


def plain_holds(condition, document, path):
    """Returns whether a condition holds at the element with this path, as point 11 tells it."""
    paths = all_paths(document)
    kind = condition[0]
    if kind in ("all", "none"):
        return kind == "all"
    if kind == "is":
        element = document
        for at in path:
            element = element[1][at]
        return element[0] == condition[1]
    if kind == "not":
        return not plain_holds(condition[1], document, path)
    if kind == "and":
        return all(plain_holds(part, document, path) for part in condition[1])
    if kind == "or":
        return any(plain_holds(part, document, path) for part in condition[1])
    return any(plain_holds(condition[1], document, other) for other in paths if seen(kind, path, other))


def seen(look, path, other):
    """Returns whether the element with the other path is one that the look asks."""
    if look == "child":
        return len(other) == len(path) + 1 and other[:len(path)] == path
    if look == "below":
        return len(other) > len(path) and other[:len(path)] == path
    if look == "parent":
        return len(path) == len(other) + 1 and path[:len(other)] == other
    if look == "above":
        return len(path) > len(other) and path[:len(other)] == other
    beside = len(path) == len(other) > 0 and path[:-1] == other[:-1]
    return beside and (other[-1] < path[-1] if look == "earlier" else other[-1] > path[-1])


def plain_holding(condition, document):
    """Returns the numbers of the elements at which a condition holds."""
    return [number for number, path in enumerate(all_paths(document)) if plain_holds(condition, document, path)]
