"""What the tests share: calls as lists of numbers, and the document's words tried out word by word.

The second part is written without the package, as slow and as near to the document as can be, so that the two
can be held against one another.
"""

import itertools

from netsunfolded.events import answers

BIG = 2 ** 64 - 1
EVENTS = [2]
CONDITIONS = [3]


def told(transitions):
    """Transitions, each a pair of what it takes and what it puts, as begin's numbers."""
    numbers = []
    for takes, puts in transitions:
        numbers += [len(takes), *takes, len(puts), *puts]
    return numbers


def begin_with(n, numbers, marking):
    return [1, n, len(numbers), *numbers, len(marking), *marking]


def begin(n, transitions, marking):
    return begin_with(n, told(transitions), marking)


def event(e):
    return [4, e]


def split(numbers):
    """The answers, a list each."""
    rows = []
    at = 0
    while at < len(numbers):
        end = at + 1 + numbers[at]
        if end > len(numbers):
            raise AssertionError(f"an answer is cut short: {numbers}")
        rows.append(numbers[at + 1:end])
        at = end
    return rows


def ask(*calls):
    """What each of these calls on one line answers."""
    return split(answers([number for call in calls for number in call]))


def ask_last(*calls):
    return ask(*calls)[-1]


def markings_come_to(transitions, marking):
    """All markings that are come to, or None if a place could have two tokens."""
    found = {frozenset(marking)}
    waiting = [frozenset(marking)]
    while waiting:
        now = waiting.pop()
        for takes, puts in transitions:
            if not set(takes) <= now:
                continue
            left = now - set(takes)
            if left & set(puts):
                return None
            behind = left | set(puts)
            if behind not in found:
                found.add(behind)
                waiting.append(behind)
    return found


class Model:
    """A net unfolded by the words of the document alone."""

    def __init__(self, transitions, marking):
        self.transitions = transitions
        self.marking = set(marking)
        self.conditions = [(place, -1) for place in sorted(marking)]
        self.events = []
        self.needs = []
        self.cut = []

    def needs_of_makers(self, conditions):
        needed = set()
        for condition in conditions:
            if self.conditions[condition][1] >= 0:
                needed |= self.needs[self.conditions[condition][1]]
        return needed

    def clash(self, some, others):
        return any(
            e != f and set(self.events[e][1]) & set(self.events[f][1]) for e in some for f in others
        )

    def at_once(self, conditions):
        needed = self.needs_of_makers(conditions)
        used = {c for e in needed for c in self.events[e][1]}
        return not self.clash(needed, needed) and not used & set(conditions)

    def marking_behind(self, events):
        used = {c for e in events for c in self.events[e][1]}
        return {
            place for c, (place, maker) in enumerate(self.conditions)
            if (maker == -1 or maker in events) and c not in used
        }

    def possible(self):
        for t, (takes, puts) in enumerate(self.transitions):
            rows = [
                [c for c, (at, maker) in enumerate(self.conditions)
                 if at == place and not (maker >= 0 and self.cut[maker])]
                for place in takes
            ]
            for used in itertools.product(*rows):
                if (t, used) not in self.events and self.at_once(used):
                    yield (len(self.needs_of_makers(used)) + 1, t, used)

    def add(self, t, used):
        number = len(self.events)
        needs = self.needs_of_makers(used) | {number}
        self.events.append((t, used))
        self.needs.append(needs)
        self.conditions += [(place, number) for place in self.transitions[t][1]]
        behind = self.marking_behind(needs)
        self.cut.append(behind == self.marking or any(
            len(other) < len(needs) and self.marking_behind(other) == behind for other in self.needs
        ))

    def unfold(self):
        """Whether it ended with at most 40 events."""
        while True:
            possible = list(self.possible())
            if not possible:
                return True
            if len(self.events) == 40:
                return False
            self.add(*min(possible)[1:])


def expected(n, transitions, marking):
    """What begin, events, conditions and event for each event answer for a net that is told rightly."""
    come_to = markings_come_to(transitions, marking)
    if come_to is None or len(come_to) > 128:
        return [[-4]]
    model = Model(transitions, marking)
    if not model.unfold():
        return [[-5]]
    events = [len(model.events)]
    for (t, used), cut in zip(model.events, model.cut):
        events += [t, int(cut), len(used), *used]
    conditions = [len(model.conditions)]
    for place, maker in model.conditions:
        conditions += [place, maker]
    rows = [[len(model.events), len(model.conditions), sum(model.cut)], events, conditions]
    for needs in model.needs:
        rows.append([len(needs), *sorted(needs), *sorted(model.marking_behind(needs))])
    return rows


def answered(n, transitions, marking):
    """The same, asked of the package."""
    first = ask(begin(n, transitions, marking))
    if first[0][0] < 0:
        return first
    # A line has 60 calls at most, so begin and up to 43 others fit into one.
    asked = [event(e) for e in range(first[0][0])]
    return ask(begin(n, transitions, marking), EVENTS, CONDITIONS, *asked)


def random_net(source):
    """A net that is told rightly and in which no place can come to have two tokens.

    Its places are some rows, each with one token at the most; each transition may fire at some marking that is
    come to by those before it, so that much happens.
    """
    n = source.randint(3, 9)
    count = source.randint(1, min(4, n - 1))
    ends = sorted(source.sample(range(1, n), count - 1))
    places = source.sample(range(n), n)
    rows = [places[start:end] for start, end in zip([0] + ends, ends + [n])]
    marking = sorted(source.choice(row) for row in rows)
    seen = [set(marking)]
    transitions = []
    for made in range(source.choice([3, 6, 8, 8])):
        now = source.choice(seen)
        takes = []
        puts = []
        for row in source.sample(rows, min(count, source.choice([1, 1, 1, 2, 2, 3]))):
            if now & set(row):
                takes += now & set(row)
                puts += [source.choice(row)] if source.random() < 0.97 else []
        if takes:
            transitions.append((sorted(takes), sorted(puts)))
            seen.append(now - set(takes) | set(puts))
    return n, source.sample(transitions, len(transitions)), marking


def random_wild_net(source):
    """A net that is told rightly, and of which nothing else is known."""
    n = source.randint(1, 9)
    transitions = []
    for made in range(source.randint(0, 8)):
        takes = source.sample(range(n), source.randint(1, min(n, 3)))
        puts = source.sample(range(n), source.randint(0, min(n, 3)))
        transitions.append((sorted(takes), sorted(puts)))
    return n, transitions, sorted(source.sample(range(n), source.randint(0, min(n, 4))))


# Two, then three, then two ways to go on; the token on place 4 goes along and may be lost behind each event.
# So there are 2 + 6 + 12 events that go on, and behind each of them one that loses it: 40.
FORTY_EVENTS = (5, [
    ([0], [1, 4]), ([0], [1, 4]),
    ([1, 4], [2, 4]), ([1, 4], [2, 4]), ([1, 4], [2, 4]),
    ([2, 4], [3, 4]), ([2, 4], [3, 4]),
    ([4], []),
], [0])
# The same with that token there at the beginning: it may be lost there too.
FORTY_ONE_EVENTS = (5, [([0, 4], [1, 4])] * 2 + FORTY_EVENTS[1][2:], [0, 4])

# Each of seven tokens goes or stays: 2^7 markings; the eighth token stays.
MANY_MARKINGS = (8, [([place], []) for place in range(7)], list(range(8)))
# All eight may go at once: one marking more.
TOO_MANY_MARKINGS = (8, MANY_MARKINGS[1] + [(list(range(8)), [])], list(range(8)))
