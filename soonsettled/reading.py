"""Reading a beginning in all ways at once: what can come, what is told of its elements, and its least ends."""

from soonsettled.errors import NotPossible
from soonsettled.ways import BEFORE, BEHIND, OUTSIDE, Ways

# Marks are an integer with two bits for each element that has begun: the lower one tells that the condition does not
# hold at it in some document, the higher one that it holds. This is what is told of an element by its two bits.
TOLD = ("", "out", "in", "open")


def first_of(lists):
    """Returns the first one of these lists of events in the order of point 5, None if there are none."""
    return min(lists, key=lambda events: (len(events), events), default=None)


def mark_of(number, holds):
    """Returns the mark of the element with this number."""
    return (2 if holds else 1) << 2 * number


def allowed_by(marks, number, holds):
    """Returns whether marks allow this for the element with the number; those that tell nothing of it do."""
    return marks >> 2 * number & 3 == 0 or marks & mark_of(number, holds) != 0


class Level:
    """An element that has begun and not ended, as it is seen from the element around it."""

    def __init__(self, outer, number, rows):
        # The level of the element around it, None if there is none.
        self.outer = outer
        self.number = number
        # For each label of the element a dictionary from the states behind it to the marks of the elements before
        # it in the element around.
        self.rows = rows


class Reading:
    """All ways in which a beginning can be read. A reading does not change; the next event leads to another one."""

    def __init__(self, ways, level, states, count):
        self.ways = ways
        # The level of the innermost element that has begun and not ended, None if there is none.
        self.level = level
        # A dictionary from the states within it to the marks of the elements in it that have ended.
        self.states = states
        # The number of the elements that have begun.
        self.count = count

    def is_whole(self):
        """Returns whether the beginning is a whole document."""
        return BEHIND in self.states

    def can_end(self):
        """Returns whether the innermost element can end."""
        return any([state in self.ways.closing for state in self.states])

    def next_events(self):
        """Returns the list of the events that can come next, in the order of point 5."""
        names = sorted({name for state in self.states for name in self.ways.begins[state]})
        return [")"] + names if self.can_end() else names

    def read(self, event):
        """Returns the reading behind one more event; raises NotPossible if it cannot come."""
        if event not in self.next_events():
            raise NotPossible(f"no document of the schema goes on with {event} here")
        return self.end_element() if event == ")" else self.begin_element(event)

    def begin_element(self, name):
        """Returns the reading behind the beginning of an element, which can come."""
        rows = {}
        for state, marks in self.states.items():
            for label, following in self.ways.begins[state].get(name, ()):
                row = rows.setdefault(label, {})
                row[following] = row.get(following, 0) | marks
        states = {state: 0 for label in rows for state in self.ways.firsts[label]}
        return Reading(self.ways, Level(self.level, self.count, rows), states, self.count + 1)

    def end_element(self):
        """Returns the reading behind the end of the innermost element, which can come."""
        inner = {}
        for state, marks in self.states.items():
            if state in self.ways.closing:
                label = self.ways.labels_of[state]
                inner[label] = inner.get(label, 0) | marks | self.own_mark(label, self.level)
        states = {}
        for label, inside in inner.items():
            for state, marks in self.level.rows[label].items():
                states[state] = states.get(state, 0) | marks | inside
        return Reading(self.ways, self.level.outer, states, self.count)

    def own_mark(self, label, level):
        """Returns the mark of the element of a level if it has this label."""
        return mark_of(level.number, self.ways.wanted[label])

    def answers(self):
        """Returns the list of what is told of the elements by number: "in", "out" or "open"."""
        marks = self.marks()
        return [TOLD[marks >> 2 * number & 3] for number in range(self.count)]

    def marks(self):
        """Returns the marks of all elements."""
        found, labels = self.marks_in(self.states)
        for level in self.levels():
            outer = {}
            for label in labels:
                marks, around = self.marks_in(level.rows[label])
                found |= marks | self.own_mark(label, level)
                outer.update(around)
            labels = outer
        return found

    def marks_in(self, row):
        """Returns (marks, labels) of a dictionary from states to marks: all marks, and the labels of the states.

        The labels are the keys of a dictionary.
        """
        found = 0
        labels = {}
        for state, marks in row.items():
            found |= marks
            labels[self.ways.labels_of[state]] = True
        return (found, labels)

    def first_end(self, number, holds):
        """Returns the first end with which the condition holds, or does not hold, at an element, or None."""
        # For each label of the element of a level the first list of events from its end to that of the document.
        tails = {OUTSIDE: []}
        for level in self.levels()[::-1]:
            tails = self.tails_in(level, tails, number, holds)
        return self.first_from(self.states, tails, number, holds)

    def levels(self):
        """Returns the list of the levels, the innermost one first."""
        levels = []
        level = self.level
        while level is not None:
            levels.append(level)
            level = level.outer
        return levels

    def tails_in(self, level, tails, number, holds):
        """Returns the tails by label of the element of a level, told those of the element around it."""
        found = {}
        for label, row in level.rows.items():
            end = self.first_from(row, tails, number, holds)
            if end is not None and allowed_by(self.own_mark(label, level), number, holds):
                found[label] = end
        return found

    def first_from(self, row, tails, number, holds):
        """Returns the first list of events from one of these states to the end of the document, or None.

        row is a dictionary from the states to marks, tails tells what comes behind the element that they are in.
        """
        ends = []
        for state, marks in row.items():
            label = self.ways.labels_of[state]
            if label in tails and allowed_by(marks, number, holds):
                ends.append(self.ways.endings[state] + tails[label])
        return first_of(ends)


def reading_of(schema, condition, events):
    """Returns the reading of a beginning; raises NotPossible."""
    ways = Ways(schema, condition)
    if BEFORE not in ways.endings:
        raise NotPossible("there is no document of the schema")
    reading = Reading(ways, None, {BEFORE: 0}, 0)
    for event in events:
        reading = reading.read(event)
    return reading
