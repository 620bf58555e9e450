"""Whether promises are kept."""

from changeditself.becoming import never_turns, surely_stays
from changeditself.foresight import worth_tables
from changeditself.house import MOST_STEPS
from changeditself.ratio import is_less

NEVER = 0
STAY = 1
WORTH = 2


def is_kept(house, promise, worths):
    """Whether the promise is kept; worths are the tables of worths, with 0 to at least its steps left."""
    kind = promise[0]
    lights = promise[1]
    who = promise[2]
    place = promise[3]
    steps = promise[4]
    least = promise[5]
    if kind == NEVER:
        return never_turns(house, who, steps, worths)
    if kind == STAY:
        return surely_stays(house, who, place, steps, worths)
    return not is_less(worths[steps][(place, who, 0)][lights], (least, 1))


def would_be_kept(house, promise):
    return is_kept(house, promise, worth_tables(house, promise[4]))


def all_are_kept(house):
    if len(house.promises) == 0:
        return True
    worths = worth_tables(house, MOST_STEPS)
    return all([is_kept(house, promise, worths) for promise in house.promises])
