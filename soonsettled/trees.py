"""Trees, which contents, conditions and documents are: going over them, joining them and writing them."""

# The place of a tree in a text at which no tree needs parentheses round it.
ALONE = 0


def parts_of(tree):
    """Returns the tuple of the contents directly in a content, or of the conditions directly in a condition."""
    if len(tree) == 1 or isinstance(tree[1], str):
        return ()
    if isinstance(tree[1][0], str):
        return (tree[1],)
    return tree[1]


def children_of(element):
    """Returns the tuple of the children of an element."""
    return element[1]


def numbered(root, inner_of):
    """Returns the list of (node, numbers) of a tree: each node, and the list of the numbers of those directly in it.

    A node stands before those in it, and all below one of these before the next one. inner_of tells the tuple of
    the nodes directly in a node.
    """
    nodes = []
    # The nodes still to come with the number of the one that they are in, the next one last; no recursion, for
    # trees can be deep.
    waiting = [(root, None)]
    while waiting:
        node, outer = waiting.pop()
        number = len(nodes)
        nodes.append((node, []))
        if outer is not None:
            nodes[outer][1].append(number)
        waiting.extend([(inner, number) for inner in inner_of(node)[::-1]])
    return nodes


def folded(root, inner_of, tell):
    """Returns what tell tells of a tree: it is passed a node, and the list of what it told of those directly in it."""
    nodes = numbered(root, inner_of)
    told = [None] * len(nodes)
    for number in range(len(nodes) - 1, -1, -1):
        node, numbers = nodes[number]
        told[number] = tell(node, [told[k] for k in numbers])
    return told[0]


def joined(kind, trees):
    """Returns the tree of this kind with these in it, those of its own kind dissolved; one tree stays what it is."""
    if len(trees) == 1:
        return trees[0]
    parts = []
    for tree in trees:
        if tree[0] == kind:
            parts.extend(tree[1])
        else:
            parts.append(tree)
    return (kind, tuple(parts))


def separated(trees, sign, place):
    """Returns the pieces (see written) of trees at this place with a sign between them."""
    pieces = []
    for tree in trees:
        if pieces:
            pieces.append(sign)
        pieces.append((tree, place))
    return pieces


def written(tree, pieces_of):
    """Returns the text of a tree that stands alone.

    pieces_of tells the list of the pieces of a tree at a place: strings, and trees with their places.
    """
    texts = []
    # The pieces still to be written, the next one last; no recursion, for trees can be deep.
    waiting = [(tree, ALONE)]
    while waiting:
        piece = waiting.pop()
        if isinstance(piece, str):
            texts.append(piece)
        else:
            waiting.extend(pieces_of(piece[0], piece[1])[::-1])
    return "".join(texts)
