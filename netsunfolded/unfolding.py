"""A net unfolded: its conditions and events, added one behind another until none is possible.

Some conditions are also kept as one whole number: its bit c is 1 if condition c is among them.
"""

MOST_EVENTS = 40
FROM_THE_BEGINNING = -1


def has_bit(bits, number):
    return (bits >> number) & 1 == 1


def bits_of(conditions):
    """These conditions, none twice, as one number."""
    return sum([1 << condition for condition in conditions])


class Condition:
    """Its place, and the event that made it or FROM_THE_BEGINNING."""

    def __init__(self, place, maker):
        self.place = place
        self.maker = maker


class Event:
    """A transition's number, the conditions it used (in the places' order), and all that follows from these.

    needs holds the event itself too; marking is what's there behind all that it needs.
    """

    def __init__(self, transition, used, made, needs):
        self.transition = transition
        self.used = used
        self.made = made
        self.needs = needs
        self.marking = ()
        self.is_cut_off = False


class Unfolding:
    """What is unfolded of a net so far."""

    def __init__(self, net):
        self.net = net
        self.events = []
        self.conditions = []
        # For each condition, the others with which it can be there at once, as one number.
        self.beside = []
        # For each place, its conditions that an event may use.
        self.usable = [[] for place in range(net.places)]
        self.first_conditions = self.make_conditions(net.marking, FROM_THE_BEGINNING, 0)
        self.let_use(self.first_conditions)

    def make_conditions(self, places, maker, common):
        """Add a condition for each place; common are the older ones that can be there with them."""
        first = len(self.conditions)
        made = list(range(first, first + len(places)))
        made_bits = bits_of(made)
        for older in range(first):
            if has_bit(common, older):
                self.beside[older] = self.beside[older] | made_bits
        for condition, place in zip(made, places):
            self.conditions.append(Condition(place, maker))
            self.beside.append(common | (made_bits - (1 << condition)))
        return made

    def let_use(self, conditions):
        for condition in conditions:
            self.usable[self.conditions[condition].place].append(condition)

    def beside_all(self, conditions):
        """Those that can be there at once with all these conditions, which are one at least."""
        common = self.beside[conditions[0]]
        for condition in conditions:
            common = common & self.beside[condition]
        return common

    def needed_to_make(self, conditions):
        """The events that made these conditions and all that these need, rising."""
        needed = []
        for condition in conditions:
            maker = self.conditions[condition].maker
            if maker != FROM_THE_BEGINNING:
                needed.extend(self.events[maker].needs)
        return sorted(set(needed))

    def used_by(self, events):
        """The conditions that these events used, each as often as it was used."""
        used = []
        for event in events:
            used.extend(self.events[event].used)
        return used

    def is_clash_within(self, events):
        """Whether two of these events, none of which is told twice, used a condition in common."""
        used = self.used_by(events)
        return len(set(used)) < len(used)

    def can_be_at_once(self, conditions):
        needed = self.needed_to_make(conditions)
        if self.is_clash_within(needed):
            return False
        return len(set(self.used_by(needed)) & set(conditions)) == 0

    def marking_behind(self, events):
        """The places of what's there behind events that can have happened, rising."""
        there = {}
        for condition in self.first_conditions:
            there[condition] = True
        for event in events:
            for condition in self.events[event].made:
                there[condition] = True
        for event in events:
            for condition in self.events[event].used:
                there.pop(condition)
        return tuple(sorted([self.conditions[condition].place for condition in there]))

    def is_nothing_new(self, event):
        """Whether the event's marking is there at the beginning or behind an event that needs fewer."""
        if event.marking == self.net.marking:
            return True
        fewer = [other for other in self.events if len(other.needs) < len(event.needs)]
        return any([other.marking == event.marking for other in fewer])

    def add_event(self, transition, used):
        """Add this event with the conditions that it makes."""
        number = len(self.events)
        needs = self.needed_to_make(used) + [number]
        # What can be there with all that it used can be there with what it makes: those that it used are not
        # among these, and whoever clashes with it used one of them.
        common = self.beside_all(used)
        made = self.make_conditions(self.net.transitions[transition].puts, number, common)
        event = Event(transition, used, made, needs)
        self.events.append(event)
        event.marking = self.marking_behind(needs)
        event.is_cut_off = self.is_nothing_new(event)
        if not event.is_cut_off:
            self.let_use(made)
        return event

    def choices(self, places, near):
        """Each choice of a usable condition for each place, all near and all there at once."""
        rows = [((), near)]
        for place in places:
            longer = []
            for chosen, fitting in rows:
                for condition in self.usable[place]:
                    if has_bit(fitting, condition):
                        longer.append((chosen + (condition,), fitting & self.beside[condition]))
            rows = longer
        return [chosen for chosen, fitting in rows]

    def possible_with(self, made):
        """The possible events that use one at least of the conditions just made by one event (or at the beginning).

        Each is told by how many events it needs, its transition and what it uses: so the least is to be added first.
        """
        if len(made) == 0:
            return []
        # What is used with one of these can be there with all of them: they are made at one time.
        near = self.beside[made[0]] | (1 << made[0])
        possible = []
        for number, transition in enumerate(self.net.transitions):
            for used in self.choices(transition.takes, near):
                if any([condition in made for condition in used]):
                    possible.append((len(self.needed_to_make(used)) + 1, number, used))
        return possible


def unfold(net):
    """The net unfolded to its end; None if that takes more than 40 events."""
    unfolding = Unfolding(net)
    possible = unfolding.possible_with(unfolding.first_conditions)
    while len(possible) > 0:
        if len(unfolding.events) == MOST_EVENTS:
            return None
        first = min(possible)
        possible.remove(first)
        event = unfolding.add_event(first[1], first[2])
        # An event is found when the last of what it uses is made, so none is found twice.
        if not event.is_cut_off:
            possible.extend(unfolding.possible_with(event.made))
    return unfolding
