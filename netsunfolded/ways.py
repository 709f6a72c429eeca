"""Events that can have happened, none of them cut off, and the markings that are there behind them."""

from netsunfolded.unfolding import bits_of


def rows_that_can_have_happened(unfolding):
    """All rows of events that can have happened, none cut off; each is a tuple, rising."""
    # With each row is kept what's there behind it, as one number.
    rows = [((), bits_of(unfolding.first_conditions))]
    for number, event in enumerate(unfolding.events):
        if event.is_cut_off:
            continue
        used = bits_of(event.used)
        made = bits_of(event.made)
        # All that it used is there just if the row has what it needs and nothing that clashes with it. An event needs
        # only events with lesser numbers, so each row is found once: behind the row without its last event.
        longer = [(row + (number,), there - used + made) for row, there in rows if there & used == used]
        rows = rows + longer
    return [row for row, there in rows]


def find_ways(unfolding):
    """For each marking that's there behind such a row, the row with the fewest events; of as few the first."""
    ways = {}
    # Those of one length stay in the order of the inner sorting, and the first row for a marking is kept.
    for row in sorted(sorted(rows_that_can_have_happened(unfolding)), key=len):
        ways.setdefault(unfolding.marking_behind(row), row)
    return ways
