"""Documents, their events, and the texts of beginnings."""

from soonsettled.tokens import Reader


def events_of(document):
    """Returns the list of the events of a document."""
    events = []
    # What is still to come, the next one last: elements, and the ends of those that have begun.
    waiting = [document]
    while waiting:
        part = waiting.pop()
        if part == ")":
            events.append(")")
        else:
            name, children = part
            events.append(name)
            waiting.append(")")
            waiting.extend(children[::-1])
    return events


def document_of(events):
    """Returns the document whose events these are."""
    names = []
    # The children so far of each element that has not ended; the first list holds the document itself.
    rows = [[]]
    for event in events:
        if event == ")":
            children = rows.pop()
            rows[-1].append((names.pop(), tuple(children)))
        else:
            names.append(event)
            rows.append([])
    return rows[0][0]


def read_events(text):
    """Returns the beginning whose text this is; raises TextError."""
    reader = Reader(text, "()")
    events = []
    depth = 0
    while reader.token != "":
        if events and depth == 0:
            # Behind the end of the document nothing may stand.
            reader.refuse()
        if reader.token == ")" and depth > 0:
            reader.step()
            events.append(")")
            depth -= 1
        else:
            events.append(reader.read_name())
            reader.read_sign("(")
            depth += 1
    return events


def print_events(events):
    """Returns the canonical text of a beginning."""
    parts = []
    before = ""
    for event in events:
        if event == ")":
            parts.append(")")
        elif before == ")":
            parts.append(f" {event}(")
        else:
            parts.append(f"{event}(")
        before = event
    return "".join(parts)
