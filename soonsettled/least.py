"""The least lists of events, in the order of point 5, that can be put together."""

from heapq import heapify, heappop, heappush


def least_lists(given, joints):
    """Returns a dictionary from goals, which are numbers, to the least list of events of each.

    given is a dictionary from goals to a list of events that each of them has. A joint (goal, first, second) tells
    that each list of the first goal with one of the second goal behind it is a list of the goal. A goal that has no
    list is no key of what is returned.
    """
    uses = {}
    for joint in joints:
        uses.setdefault(joint[1], []).append(joint)
        uses.setdefault(joint[2], []).append(joint)
    waiting = [(len(events), events, goal) for goal, events in given.items()]
    heapify(waiting)
    found = {}
    # No list is less than those that it is joined of, and less ones joined are less: so the least list that waits
    # is the least one of its goal.
    while waiting:
        _, least, reached = heappop(waiting)
        if reached not in found:
            found[reached] = least
            for goal, first, second in uses.get(reached, ()):
                if goal not in found and first in found and second in found:
                    events = found[first] + found[second]
                    heappush(waiting, (len(events), events, goal))
    return found
