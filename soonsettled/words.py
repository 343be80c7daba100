"""The words of a content, read type by type."""

from soonsettled.trees import folded, parts_of


class Words:
    """The words of a content, as states.

    State 0 is that before all types, and each other one that behind one of the places where a type stands in the
    content. A set of states is an integer, with bit k for state k.
    """

    def __init__(self, content):
        # For each state the set of those that one more type can lead to.
        self.after = [0]
        # The set of the states that each type leads to.
        self.behind = {}
        # The set of the states in which a word is whole.
        self.ends = 0
        self.find_states(content)

    def find_states(self, content):
        """Finds the states of a content."""
        first, last, bare = folded(content, parts_of, lambda part, spans: self.span_of(part, spans))
        self.after[0] = first
        self.ends = last
        if bare:
            self.ends |= 1

    def span_of(self, content, spans):
        """Returns (first, last, bare) of a content whose parts have these spans, and links the states in it.

        These are the sets of the states behind a first and behind a last type of its words, and whether it has
        the word without types.
        """
        kind = content[0]
        if kind == "type":
            return self.span_of_type(content[1])
        if kind == "empty":
            return (0, 0, True)
        if kind == "row":
            return self.span_of_row(spans)
        if kind == "choice":
            return span_of_choice(spans)
        first, last, bare = spans[0]
        if kind != "maybe":
            self.link(last, first)
        return (first, last, bare or kind != "some")

    def span_of_type(self, word):
        """Returns the span of a type, for which there is a new state."""
        state = 1 << len(self.after)
        self.after.append(0)
        self.behind[word] = self.behind.get(word, 0) | state
        return (state, state, False)

    def span_of_row(self, spans):
        """Returns the span of a row, and links each of its parts with those behind it."""
        first = 0
        last = 0
        bare = True
        for part_first, part_last, part_bare in spans:
            self.link(last, part_first)
            if bare:
                first |= part_first
            if part_bare:
                last |= part_last
            else:
                last = part_last
                bare = False
        return (first, last, bare)

    def link(self, states, following):
        """Takes note that one more type can lead from each of these states to those following."""
        for state in range(len(self.after)):
            if states >> state & 1:
                self.after[state] |= following

    def moves_from(self, state):
        """Returns the list of (type, following) for the types that can come behind a state, and where each leads to."""
        return [
            (word, following) for word, behind in self.behind.items() for following in range(len(self.after))
            if self.after[state] & behind & 1 << following
        ]

    def is_whole_at(self, state):
        """Returns whether a word is whole in this state."""
        return self.ends >> state & 1 == 1

    def step_of(self, states, types):
        """Returns the set of the states that one of these types leads to from one of these states."""
        near = 0
        for state, following in enumerate(self.after):
            if states >> state & 1:
                near |= following
        reached = 0
        for word in types:
            reached |= self.behind.get(word, 0)
        return near & reached

    def fit(self, children):
        """Returns whether there is a word with a type of each child in its place; children lists their types."""
        states = 1
        for types in children:
            states = self.step_of(states, types)
        return (states & self.ends) != 0


def span_of_choice(spans):
    """Returns the span (see Words) of a choice."""
    first = 0
    last = 0
    bare = False
    for part_first, part_last, part_bare in spans:
        first |= part_first
        last |= part_last
        bare = bare or part_bare
    return (first, last, bare)
