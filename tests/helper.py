"""What the tests share: calls as lists of numbers, and the document's words tried out word by word.

The second part is written without the package, as slow and as near to the document as can be, so that the two
can be held against one another.
"""

import itertools

from netsunfolded.events import answers

BIG = 2 ** 64 - 1
EVENTS = [2]
CONDITIONS = [3]
REACH = [7]


def told(transitions):
    """Transitions, each a pair of what it takes and what it puts, as begin's numbers."""
    numbers = []
    for takes, puts in transitions:
        numbers += [len(takes), *takes, len(puts), *puts]
    return numbers


def begin_with(n, numbers, marking):
    return [1, n, len(numbers), *numbers, len(marking), *marking]


def begin(n, transitions, marking):
    return begin_with(n, told(transitions), marking)


def event(e):
    return [4, e]


def two(e, f):
    return [5, e, f]


def there(conditions):
    return [6, len(conditions), *conditions]


def way(marking):
    return [8, len(marking), *marking]


def split(numbers):
    """The answers, a list each."""
    rows = []
    at = 0
    while at < len(numbers):
        end = at + 1 + numbers[at]
        if end > len(numbers):
            raise AssertionError(f"an answer is cut short: {numbers}")
        rows.append(numbers[at + 1:end])
        at = end
    return rows


def ask(*calls):
    """What each of these calls on one line answers."""
    return split(answers([number for call in calls for number in call]))


def ask_last(*calls):
    return ask(*calls)[-1]


def ask_behind(net, calls):
    """What each of the calls answers behind this begin; a line has 60 calls at most, so there may be several."""
    rows = []
    for start in range(0, len(calls), 59):
        rows += ask(net, *calls[start:start + 59])[1:]
    return rows


def first_difference(asked, answers, wanted):
    """What was asked, answered and wanted where the last two first differ; None if they don't.

    Held against None it fails at once, where unittest would set long lists side by side for minutes.
    """
    if not len(asked) == len(answers) == len(wanted):
        return len(asked), len(answers), len(wanted)
    for row in zip(asked, answers, wanted):
        if row[1] != row[2]:
            return row
    return None


def transitions_of(answer):
    """The transition of each event, from what events answers."""
    found = []
    at = 1
    while at < len(answer):
        found.append(answer[at])
        at += 3 + answer[at + 2]
    return found


def markings_told(answer):
    """The markings from what reach answers, a list each."""
    rows = split(answer[1:])
    if len(rows) != answer[0]:
        raise AssertionError(f"reach tells {len(rows)} markings, not {answer[0]}")
    return rows


def fire_all(transitions, marking, fired):
    """The marking behind these transitions, one behind another; None if one may not fire."""
    now = set(marking)
    for t in fired:
        takes, puts = transitions[t]
        if not set(takes) <= now:
            return None
        now = now - set(takes) | set(puts)
    return sorted(now)


def markings_come_to(transitions, marking):
    """All markings that are come to, or None if a place could have two tokens."""
    found = {frozenset(marking)}
    waiting = [frozenset(marking)]
    while waiting:
        now = waiting.pop()
        for takes, puts in transitions:
            if not set(takes) <= now:
                continue
            left = now - set(takes)
            if left & set(puts):
                return None
            behind = left | set(puts)
            if behind not in found:
                found.add(behind)
                waiting.append(behind)
    return found


class Model:
    """A net unfolded by the words of the document alone."""

    def __init__(self, transitions, marking):
        self.transitions = transitions
        self.marking = set(marking)
        self.conditions = [(place, -1) for place in sorted(marking)]
        self.events = []
        self.needs = []
        self.cut = []

    def needs_of_makers(self, conditions):
        needed = set()
        for condition in conditions:
            if self.conditions[condition][1] >= 0:
                needed |= self.needs[self.conditions[condition][1]]
        return needed

    def clash(self, some, others):
        return any(
            e != f and set(self.events[e][1]) & set(self.events[f][1]) for e in some for f in others
        )

    def at_once(self, conditions):
        needed = self.needs_of_makers(conditions)
        used = {c for e in needed for c in self.events[e][1]}
        return not self.clash(needed, needed) and not used & set(conditions)

    def there_behind(self, events):
        used = {c for e in events for c in self.events[e][1]}
        return {
            c for c, (place, maker) in enumerate(self.conditions)
            if (maker == -1 or maker in events) and c not in used
        }

    def marking_behind(self, events):
        return {self.conditions[c][0] for c in self.there_behind(events)}

    def possible(self):
        for t, (takes, puts) in enumerate(self.transitions):
            rows = [
                [c for c, (at, maker) in enumerate(self.conditions)
                 if at == place and not (maker >= 0 and self.cut[maker])]
                for place in takes
            ]
            for used in itertools.product(*rows):
                if (t, used) not in self.events and self.at_once(used):
                    yield (len(self.needs_of_makers(used)) + 1, t, used)

    def add(self, t, used):
        number = len(self.events)
        needs = self.needs_of_makers(used) | {number}
        self.events.append((t, used))
        self.needs.append(needs)
        self.conditions += [(place, number) for place in self.transitions[t][1]]
        behind = self.marking_behind(needs)
        self.cut.append(behind == self.marking or any(
            len(other) < len(needs) and self.marking_behind(other) == behind for other in self.needs
        ))

    def unfold(self):
        """Whether it ended with at most 40 events."""
        while True:
            possible = list(self.possible())
            if not possible:
                return True
            if len(self.events) == 40:
                return False
            self.add(*min(possible)[1:])

    def can_have_happened(self, events):
        return all(self.needs[e] <= events for e in events) and not self.clash(events, events)

    def rows_that_can_have_happened(self):
        """All of them, each a set; events that are cut off may be among them."""
        found = {frozenset()}
        waiting = [frozenset()]
        while waiting:
            now = waiting.pop()
            for e, needs in enumerate(self.needs):
                more = now | {e}
                if more not in found and needs <= more and not self.clash({e}, now):
                    found.add(more)
                    waiting.append(more)
        return found

    def rows_not_cut_off(self):
        """The same without those that have an event that is cut off; each a list, rising."""
        rows = [sorted(row) for row in self.rows_that_can_have_happened()]
        return [row for row in rows if not any(self.cut[e] for e in row)]

    def two(self, e, f):
        if e == f:
            return 0
        if e in self.needs[f]:
            return 1
        if f in self.needs[e]:
            return 2
        return 3 if self.clash(self.needs[e], self.needs[f]) else 4

    def ways(self):
        """For each marking behind rows that aren't cut off, the transitions of the row that way picks."""
        rows = {}
        for row in self.rows_not_cut_off():
            rows.setdefault(tuple(sorted(self.marking_behind(row))), []).append((len(row), row))
        return {marking: [self.events[e][0] for e in min(found)[1]] for marking, found in rows.items()}


def rises_below(row, bound):
    return row == sorted(set(row)) and all(number < bound for number in row)


def read_told(numbers, n):
    """The transitions that begin's numbers tell, or None if they aren't told so."""
    rows = []
    rest = list(numbers)
    while rest:
        count = rest.pop(0)
        if count > len(rest):
            return None
        rows.append(rest[:count])
        rest = rest[count:]
    if len(rows) % 2 == 1 or not all(rises_below(row, n) for row in rows):
        return None
    return list(zip(rows[::2], rows[1::2]))


class SlowLine:
    """The calls on one net, answered by the words of the document alone."""

    def __init__(self):
        self.n = 1
        self.model = Model([], [])

    def answer(self, call):
        names = ["begin", "events", "conditions", "event", "two", "there", "reach", "way"]
        return getattr(self, names[call[0] - 1])(*call[1:])

    def begin(self, n, *numbers):
        told_so = list(numbers[1:numbers[0] + 1])
        marking = list(numbers[numbers[0] + 2:])
        if not 1 <= n <= 9:
            return [-1]
        transitions = read_told(told_so, n)
        if transitions is None or not rises_below(marking, n):
            return [-3]
        if len(transitions) > 8 or not all(takes for takes, puts in transitions):
            return [-1]
        rows = expected(n, transitions, marking)
        if rows[0][0] >= 0:
            self.n = n
            self.model = Model(transitions, marking)
            self.model.unfold()
        return rows[0]

    def rows(self):
        return expected(self.n, self.model.transitions, sorted(self.model.marking))

    def events(self):
        return self.rows()[1]

    def conditions(self):
        return self.rows()[2]

    def event(self, e):
        return self.rows()[3 + e] if e < len(self.model.events) else [-2]

    def two(self, e, f):
        if e >= len(self.model.events) or f >= len(self.model.events):
            return [-2]
        return [self.model.two(e, f)]

    def there(self, count, *conditions):
        if not rises_below(list(conditions), len(self.model.conditions)):
            return [-3]
        return [int(self.model.at_once(conditions))]

    def reach(self):
        markings = sorted(self.model.ways())
        return [len(markings)] + [number for marking in markings for number in (len(marking), *marking)]

    def way(self, count, *marking):
        if not rises_below(list(marking), self.n):
            return [-3]
        transitions = self.model.ways().get(marking)
        return [-2] if transitions is None else [len(transitions), *transitions]


def expected(n, transitions, marking):
    """What begin, events, conditions and event for each event answer for a net that is told rightly."""
    come_to = markings_come_to(transitions, marking)
    if come_to is None or len(come_to) > 128:
        return [[-4]]
    model = Model(transitions, marking)
    if not model.unfold():
        return [[-5]]
    events = [len(model.events)]
    for (t, used), cut in zip(model.events, model.cut):
        events += [t, int(cut), len(used), *used]
    conditions = [len(model.conditions)]
    for place, maker in model.conditions:
        conditions += [place, maker]
    rows = [[len(model.events), len(model.conditions), sum(model.cut)], events, conditions]
    for needs in model.needs:
        rows.append([len(needs), *sorted(needs), *sorted(model.marking_behind(needs))])
    return rows


def answered(n, transitions, marking):
    """The same, asked of the package."""
    first = ask(begin(n, transitions, marking))
    if first[0][0] < 0:
        return first
    # A line has 60 calls at most, so begin and up to 43 others fit into one.
    asked = [event(e) for e in range(first[0][0])]
    return ask(begin(n, transitions, marking), EVENTS, CONDITIONS, *asked)


def random_net(source):
    """A net that is told rightly and in which no place can come to have two tokens.

    Its places are some rows, each with one token at the most; each transition may fire at some marking that is
    come to by those before it, so that much happens.
    """
    n = source.randint(3, 9)
    count = source.randint(1, min(4, n - 1))
    ends = sorted(source.sample(range(1, n), count - 1))
    places = source.sample(range(n), n)
    rows = [places[start:end] for start, end in zip([0] + ends, ends + [n])]
    marking = sorted(source.choice(row) for row in rows)
    seen = [set(marking)]
    transitions = []
    for made in range(source.choice([3, 6, 8, 8])):
        now = source.choice(seen)
        takes = []
        puts = []
        for row in source.sample(rows, min(count, source.choice([1, 1, 1, 2, 2, 3]))):
            if now & set(row):
                takes += now & set(row)
                puts += [source.choice(row)] if source.random() < 0.97 else []
        if takes:
            transitions.append((sorted(takes), sorted(puts)))
            seen.append(now - set(takes) | set(puts))
    return n, source.sample(transitions, len(transitions)), marking


def random_wild_net(source):
    """A net that is told rightly, and of which nothing else is known."""
    n = source.randint(1, 9)
    transitions = []
    for made in range(source.randint(0, 8)):
        takes = source.sample(range(n), source.randint(1, min(n, 3)))
        puts = source.sample(range(n), source.randint(0, min(n, 3)))
        transitions.append((sorted(takes), sorted(puts)))
    return n, transitions, sorted(source.sample(range(n), source.randint(0, min(n, 4))))


# Two, then three, then two ways to go on; the token on place 4 goes along and may be lost behind each event.
# So there are 2 + 6 + 12 events that go on, and behind each of them one that loses it: 40.
FORTY_EVENTS = (5, [
    ([0], [1, 4]), ([0], [1, 4]),
    ([1, 4], [2, 4]), ([1, 4], [2, 4]), ([1, 4], [2, 4]),
    ([2, 4], [3, 4]), ([2, 4], [3, 4]),
    ([4], []),
], [0])
# The same with that token there at the beginning: it may be lost there too.
FORTY_ONE_EVENTS = (5, [([0, 4], [1, 4])] * 2 + FORTY_EVENTS[1][2:], [0, 4])

# Each of seven tokens goes or stays: 2^7 markings; the eighth token stays.
MANY_MARKINGS = (8, [([place], []) for place in range(7)], list(range(8)))
# All eight may go at once: one marking more.
TOO_MANY_MARKINGS = (8, MANY_MARKINGS[1] + [(list(range(8)), [])], list(range(8)))

# Two rows of places, in each of which three tokens go in any order while the first place keeps its token: 1 + 3 + 6 + 6
# rows of events each. The last place has two ways to lose its token. So there are 16 * 16 * 3 rows of events that can
# have happened, of 15 + 15 + 2 events, and 8 * 8 * 2 markings.
MANY_ROWS = (9, [
    ([0, 1], [0]), ([0, 2], [0]), ([0, 3], [0]),
    ([4, 5], [4]), ([4, 6], [4]), ([4, 7], [4]),
    ([8], []), ([8], []),
], list(range(9)))
