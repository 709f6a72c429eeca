"""Nets: how transitions are told, how they fire, and whether a net keeps to its bounds.

A marking is a tuple of the places that have a token, rising.
"""

from netsunfolded.rows import is_rising_below, split_rows

MOST_PLACES = 9
MOST_TRANSITIONS = 8
MOST_MARKINGS = 128


class Transition:
    """The places from which it takes and those into which it puts, each a rising list."""

    def __init__(self, takes, puts):
        self.takes = takes
        self.puts = puts

    def may_fire(self, marking):
        return all([place in marking for place in self.takes])

    def untouched(self, marking):
        return [place for place in marking if place not in self.takes]

    def makes_two_tokens(self, marking):
        staying = self.untouched(marking)
        return any([place in staying for place in self.puts])

    def fire(self, marking):
        """The marking behind this one, at which it may fire."""
        return tuple(sorted(self.untouched(marking) + self.puts))


class Net:
    """How many places there are, the transitions, and the marking at the beginning."""

    def __init__(self, places, transitions, marking):
        self.places = places
        self.transitions = transitions
        self.marking = marking


def read_transitions(numbers, places):
    """The transitions that the numbers tell; None if they aren't told as they should be."""
    rows = split_rows(numbers)
    if rows is None or len(rows) % 2 == 1:
        return None
    if not all([is_rising_below(row, places) for row in rows]):
        return None
    return [Transition(rows[k], rows[k + 1]) for k in range(0, len(rows), 2)]


def are_transitions_allowed(transitions):
    if len(transitions) > MOST_TRANSITIONS:
        return False
    return all([len(transition.takes) > 0 for transition in transitions])


def keeps_to_bounds(net):
    """Whether no place can come to have two tokens, and not too many markings are come to."""
    come_to = {net.marking: True}
    waiting = [net.marking]
    while len(waiting) > 0:
        marking = waiting.pop()
        for transition in net.transitions:
            if not transition.may_fire(marking):
                continue
            if transition.makes_two_tokens(marking):
                return False
            behind = transition.fire(marking)
            if behind not in come_to:
                come_to[behind] = True
                waiting.append(behind)
        if len(come_to) > MOST_MARKINGS:
            return False
    return True
