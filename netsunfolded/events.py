"""The calls on one net, one behind another, and what each of them answers."""

from netsunfolded.nets import MOST_PLACES, Net, are_transitions_allowed, keeps_to_bounds, read_transitions
from netsunfolded.rows import RowReader, is_rising_below
from netsunfolded.unfolding import unfold

BEGIN = 1
EVENTS = 2
CONDITIONS = 3
EVENT = 4

NOT_ALLOWED = -1
NOT_THERE = -2
NOT_TOLD_SO = -3
OUT_OF_BOUNDS = -4
TOO_MANY_EVENTS = -5


class UnknownCall(ValueError):
    """A call's number that stands for no call here."""


class Line:
    """The net that the calls are about, unfolded; begin puts another in its place."""

    def __init__(self):
        self.unfolding = unfold(Net(1, [], ()))

    def begin(self, places, transition_numbers, marking):
        # The refusals stand in the order in which the document tells them: the first that holds is answered.
        if not 1 <= places <= MOST_PLACES:
            return [NOT_ALLOWED]
        transitions = read_transitions(transition_numbers, places)
        if transitions is None or not is_rising_below(marking, places):
            return [NOT_TOLD_SO]
        if not are_transitions_allowed(transitions):
            return [NOT_ALLOWED]
        net = Net(places, transitions, tuple(marking))
        if not keeps_to_bounds(net):
            return [OUT_OF_BOUNDS]
        unfolding = unfold(net)
        if unfolding is None:
            return [TOO_MANY_EVENTS]
        self.unfolding = unfolding
        cut_off = [event for event in unfolding.events if event.is_cut_off]
        return [len(unfolding.events), len(unfolding.conditions), len(cut_off)]

    def tell_events(self):
        told = [len(self.unfolding.events)]
        for event in self.unfolding.events:
            told.extend([event.transition, 1 if event.is_cut_off else 0, len(event.used)])
            told.extend(event.used)
        return told

    def tell_conditions(self):
        told = [len(self.unfolding.conditions)]
        for condition in self.unfolding.conditions:
            told.extend([condition.place, condition.maker])
        return told

    def tell_event(self, number):
        if number >= len(self.unfolding.events):
            return [NOT_THERE]
        event = self.unfolding.events[number]
        return [len(event.needs)] + event.needs + list(event.marking)


def answer_next(line, reader):
    """Read one call and answer it."""
    call = reader.read_number()
    if call == BEGIN:
        places = reader.read_number()
        transition_numbers = reader.read_row()
        return line.begin(places, transition_numbers, reader.read_row())
    if call == EVENTS:
        return line.tell_events()
    if call == CONDITIONS:
        return line.tell_conditions()
    if call == EVENT:
        return line.tell_event(reader.read_number())
    raise UnknownCall(f"no call {call}")


def answers(calls):
    """What the calls answer, one behind another: of each how many numbers, then these."""
    line = Line()
    reader = RowReader(calls)
    told = []
    while reader.has_more():
        answer = answer_next(line, reader)
        told.append(len(answer))
        told.extend(answer)
    return told
