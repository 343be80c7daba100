"""Streams: documents that arrive event by event."""

from soonsettled.errors import NotPossible
from soonsettled.life import living
from soonsettled.reading import reading_of


class Stream:
    """A document that arrives event by event, and what has been settled of its elements."""

    def __init__(self, schema, condition):
        if schema[0][0] not in living(schema):
            raise NotPossible("there is no document of the schema")
        self.schema = schema
        self.asked = condition
        self.events = []
        # What is told of the elements that have begun, by number.
        self.verdicts = []
        # The reading of the events so far. It is found when it is needed first, so that a fork needs none of its own.
        self.latest = None

    def reading(self):
        """Returns the reading of the events so far."""
        if self.latest is None:
            self.latest = reading_of(self.schema, self.asked, self.events)
        return self.latest

    def feed(self, event):
        """Takes the next event, and returns the list of (number, told) for the elements that are settled by it.

        Raises NotPossible if the event cannot come next.
        """
        reading = self.reading().read(event)
        answers = reading.answers()
        # An element that begins with the event was not settled before.
        before = self.verdicts + ["open"]
        self.latest = reading
        self.verdicts = answers
        self.events.append(event)
        return [(number, told) for number, told in enumerate(answers) if told != "open" and before[number] == "open"]

    def told(self, number):
        """Returns "in", "out" or "open" for an element that has begun."""
        return self.verdicts[number]

    def open_numbers(self):
        """Returns the list of the numbers of the elements that are open, ascending."""
        return [number for number, told in enumerate(self.verdicts) if told == "open"]

    def next_events(self):
        """Returns the list of the events that can come next, in the order of point 5."""
        return self.reading().next_events()

    def state(self):
        """Returns the tuple of all events so far."""
        return tuple(self.events)

    def fork(self):
        """Returns a new stream with the same schema, condition and events."""
        stream = Stream(self.schema, self.asked)
        stream.latest = self.reading()
        stream.verdicts = list(self.verdicts)
        stream.events = list(self.events)
        return stream

    @staticmethod
    def opened(schema, condition, state):
        """Returns a stream with the state of one with this schema and condition."""
        stream = Stream(schema, condition)
        stream.events = list(state)
        stream.verdicts = stream.reading().answers()
        return stream
