"""The ways in which the documents of a schema can be read, with the labels that their elements have."""

from soonsettled.labels import Labels
from soonsettled.least import least_lists
from soonsettled.words import Words

# The states before and behind a document.
BEFORE = 0
BEHIND = 1
# What stands for the label of the element that these two are in, for there is none.
OUTSIDE = -1


class States:
    """The states in which reading a document can be, and the steps between them, found from the one before it.

    A state is a number. Those from 2 on are within an element, in front of its children or behind one of them; such
    a state stands for (label, place, behind): the label of the element, the place in the words of its content, which
    is a state of Words, and what is behind the child (see Labels).
    """

    def __init__(self, schema, condition):
        self.labels = Labels(schema, condition)
        self.words = [Words(content) for _, _, content in schema]
        numbers = {rule[0]: number for number, rule in enumerate(schema)}
        # For each rule and place the list of (rule of a child that can come, place behind it).
        self.moves = [
            [[(numbers[word], place) for word, place in words.moves_from(at)] for at in range(len(words.after))]
            for words in self.words
        ]
        # What each state stands for; BEFORE and BEHIND are in no element, and so have no place and nothing behind.
        self.parts = [(OUTSIDE, None, None), (OUTSIDE, None, None)]
        self.numbers = {}
        # The states in front of the children for each label that was met.
        self.firsts = {}
        # For each state the list of (label, following): a child with the label leads to the state following.
        self.steps = [[(label, BEHIND) for label in self.labels.roots()], []]
        for label, _ in self.steps[BEFORE]:
            self.meet(label)
        while len(self.steps) < len(self.parts):
            self.steps.append(self.steps_from(len(self.steps)))

    def number_of(self, parts):
        """Returns the number of the state that stands for these parts."""
        if parts not in self.numbers:
            self.numbers[parts] = len(self.parts)
            self.parts.append(parts)
        return self.numbers[parts]

    def meet(self, label):
        """Takes note that there may be an element with this label."""
        if label not in self.firsts:
            self.firsts[label] = [self.number_of((label, 0, behind)) for behind in self.labels.starts()]

    def steps_from(self, state):
        """Returns the list of the steps from a state within an element."""
        label, place, behind = self.parts[state]
        steps = []
        for rule, following in self.moves[self.labels.rules[label]][place]:
            for child, after in self.labels.children(label, rule, behind):
                self.meet(child)
                steps.append((child, self.number_of((label, following, after))))
        return steps

    def lasts(self):
        """Returns the list of the states in which an element can end."""
        return [state for state in range(2, len(self.parts)) if self.may_end(state)]

    def may_end(self, state):
        """Returns whether an element can end in this state, which is one within it."""
        label, place, behind = self.parts[state]
        return self.words[self.labels.rules[label]].is_whole_at(place) and self.labels.allow_end(label, behind)


class Ways:
    """The states and steps (see States) with the least lists of events; steps that lead to no document are left out."""

    def __init__(self, schema, condition):
        states = States(schema, condition)
        # The names of the labels, and whether the condition holds at an element with the label.
        self.names = states.labels.names
        self.wanted = states.labels.wanted
        # The labels that a document can have.
        self.root_labels = states.labels.roots()
        # The label of the element that each state is in.
        self.labels_of = [label for label, _, _ in states.parts]
        # The states in which an element can end, as the keys of a dictionary.
        self.closing = {state: True for state in states.lasts()}
        # For each state the least list of events to the end of the element that it is in, an empty one for BEHIND.
        # States from which there is no way to the end are no keys.
        self.endings = {}
        # For each label the least list of events of an element. Labels that no element has are no keys.
        self.bodies = {}
        self.find_least(states)
        self.firsts = {
            label: [state for state in firsts if state in self.endings] for label, firsts in states.firsts.items()
        }
        # For each state a dictionary from the names with which a child can begin to the lists of the steps.
        self.begins = [self.steps_by_name(steps) for steps in states.steps]

    def find_least(self, states):
        """Finds the least lists of events."""
        names = sorted(set(self.names))
        # The goals of least_lists are the states, the labels behind these, and the names behind the labels.
        base = len(states.parts)
        top = base + len(self.names)
        given = {top + at: [name] for at, name in enumerate(names)}
        given[BEHIND] = []
        for state in self.closing:
            given[state] = [")"]
        joints = [
            (state, base + label, following) for state, steps in enumerate(states.steps) for label, following in steps
        ]
        for label, firsts in states.firsts.items():
            name = top + names.index(self.names[label])
            joints.extend([(base + label, name, state) for state in firsts])
        for goal, events in least_lists(given, joints).items():
            if goal < base:
                self.endings[goal] = events
            elif goal < top:
                self.bodies[goal - base] = events

    def steps_by_name(self, steps):
        """Returns a dictionary from the names to the lists of those of these steps by which a document can be read."""
        named = {}
        for label, following in steps:
            if label in self.bodies and following in self.endings:
                named.setdefault(self.names[label], []).append((label, following))
        return named
