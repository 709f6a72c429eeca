"""The calls on one net, one behind another, and what each of them answers."""

from netsunfolded.nets import MOST_PLACES, Net, are_transitions_allowed, keeps_to_bounds, read_transitions
from netsunfolded.rows import RowReader, is_rising_below
from netsunfolded.unfolding import unfold
from netsunfolded.ways import find_ways

BEGIN = 1
EVENTS = 2
CONDITIONS = 3
EVENT = 4
TWO = 5
THERE = 6
REACH = 7
WAY = 8

THE_SAME = 0
SECOND_NEEDS_FIRST = 1
FIRST_NEEDS_SECOND = 2
CLASH = 3
SIDE_BY_SIDE = 4

NOT_ALLOWED = -1
NOT_THERE = -2
NOT_TOLD_SO = -3
OUT_OF_BOUNDS = -4
TOO_MANY_EVENTS = -5


class UnknownCall(ValueError):
    """A call's number that stands for no call here."""


class Line:
    """The net that the calls are about, unfolded; begin puts another in its place."""

    def __init__(self):
        self.unfolding = unfold(Net(1, [], ()))
        # Found when they are first asked for: many calls may ask for them, or none.
        self.ways = None

    def begin(self, places, transition_numbers, marking):
        # The refusals stand in the order in which the document tells them: the first that holds is answered.
        if not 1 <= places <= MOST_PLACES:
            return [NOT_ALLOWED]
        transitions = read_transitions(transition_numbers, places)
        if transitions is None or not is_rising_below(marking, places):
            return [NOT_TOLD_SO]
        if not are_transitions_allowed(transitions):
            return [NOT_ALLOWED]
        net = Net(places, transitions, tuple(marking))
        if not keeps_to_bounds(net):
            return [OUT_OF_BOUNDS]
        unfolding = unfold(net)
        if unfolding is None:
            return [TOO_MANY_EVENTS]
        self.unfolding = unfolding
        self.ways = None
        cut_off = [event for event in unfolding.events if event.is_cut_off]
        return [len(unfolding.events), len(unfolding.conditions), len(cut_off)]

    def tell_events(self):
        told = [len(self.unfolding.events)]
        for event in self.unfolding.events:
            told.extend([event.transition, 1 if event.is_cut_off else 0, len(event.used)])
            told.extend(event.used)
        return told

    def tell_conditions(self):
        told = [len(self.unfolding.conditions)]
        for condition in self.unfolding.conditions:
            told.extend([condition.place, condition.maker])
        return told

    def tell_event(self, number):
        if number >= len(self.unfolding.events):
            return [NOT_THERE]
        event = self.unfolding.events[number]
        return [len(event.needs)] + event.needs + list(event.marking)

    def tell_two(self, first, second):
        if max(first, second) >= len(self.unfolding.events):
            return [NOT_THERE]
        if first == second:
            return [THE_SAME]
        first_needs = self.unfolding.events[first].needs
        second_needs = self.unfolding.events[second].needs
        if first in second_needs:
            return [SECOND_NEEDS_FIRST]
        if second in first_needs:
            return [FIRST_NEEDS_SECOND]
        # What one event needs doesn't clash with itself, so a clash within both is one between them.
        both = sorted(set(first_needs + second_needs))
        return [CLASH if self.unfolding.is_clash_within(both) else SIDE_BY_SIDE]

    def tell_there(self, conditions):
        if not is_rising_below(conditions, len(self.unfolding.conditions)):
            return [NOT_TOLD_SO]
        return [1 if self.unfolding.can_be_at_once(conditions) else 0]

    def known_ways(self):
        if self.ways is None:
            self.ways = find_ways(self.unfolding)
        return self.ways

    def tell_reach(self):
        # Tuples are in the order that is asked for: by the first place that differs, one that ends there first.
        markings = sorted(self.known_ways())
        told = [len(markings)]
        for marking in markings:
            told.append(len(marking))
            told.extend(marking)
        return told

    def tell_way(self, places):
        if not is_rising_below(places, self.unfolding.net.places):
            return [NOT_TOLD_SO]
        ways = self.known_ways()
        marking = tuple(places)
        if marking not in ways:
            return [NOT_THERE]
        happened = ways[marking]
        return [len(happened)] + [self.unfolding.events[event].transition for event in happened]


def answer_next(line, reader):
    """Read one call and answer it."""
    call = reader.read_number()
    if call == BEGIN:
        places = reader.read_number()
        transition_numbers = reader.read_row()
        return line.begin(places, transition_numbers, reader.read_row())
    if call == EVENTS:
        return line.tell_events()
    if call == CONDITIONS:
        return line.tell_conditions()
    if call == EVENT:
        return line.tell_event(reader.read_number())
    if call == TWO:
        first = reader.read_number()
        return line.tell_two(first, reader.read_number())
    if call == THERE:
        return line.tell_there(reader.read_row())
    if call == REACH:
        return line.tell_reach()
    if call == WAY:
        return line.tell_way(reader.read_row())
    raise UnknownCall(f"no call {call}")


def answers(calls):
    """What the calls answer, one behind another: of each how many numbers, then these."""
    line = Line()
    reader = RowReader(calls)
    told = []
    while reader.has_more():
        answer = answer_next(line, reader)
        told.append(len(answer))
        told.extend(answer)
    return told
