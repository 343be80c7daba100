"""Which types have elements, and how small these can be."""

from soonsettled.trees import folded, parts_of

# The events by which an element begins and ends.
OWN_EVENTS = 2


def least_part(content, parts, sizes):
    """Returns the least number of events of children that are a word of a content, None if there are none.

    parts has these numbers of the contents directly in it, sizes those of the types that are known to have elements.
    """
    kind = content[0]
    if kind == "type":
        return sizes.get(content[1])
    if kind in ("empty", "many", "maybe"):
        return 0
    if kind == "some":
        return parts[0]
    known = [part for part in parts if part is not None]
    if kind == "choice":
        return min(known, default=None)
    if len(known) < len(parts):
        return None
    return sum(known)


def least_content(content, sizes):
    """Returns the least number of events of children that are a word of a content, None if there are none."""
    return folded(content, parts_of, lambda part, parts: least_part(part, parts, sizes))


def least_sizes(schema):
    """Returns a dictionary from the types of which there are elements to the least number of events of one."""
    sizes = {}
    changed = True
    # Each size is one of an element that there is; as long as one changes, those that need it can be smaller.
    while changed:
        changed = False
        for word, _, content in schema:
            inside = least_content(content, sizes)
            if inside is not None and sizes.get(word) != inside + OWN_EVENTS:
                sizes[word] = inside + OWN_EVENTS
                changed = True
    return {rule[0]: sizes[rule[0]] for rule in schema if rule[0] in sizes}


def living(schema):
    """Returns the list of the types of which there are elements, in the order of the rules."""
    return list(least_sizes(schema))
