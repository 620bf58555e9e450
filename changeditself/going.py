"""The call by which the helper goes, by told luck."""

from changeditself.foresight import act_done
from changeditself.house import MOST_ENTRIES, MOST_STEPS, Entry, stand_behind
from changeditself.refusals import FULL, NO_ACT, NOT_AS_TOLD

GO = 12
MOST_LUCK = 999


def place_by_luck(weights, luck):
    """The first place up to which a thousand times the share of all weights is above the luck."""
    total = sum(weights)
    place = 0
    reached = weights[0]
    while luck * total >= 1000 * reached:
        place = place + 1
        reached = reached + weights[place]
    return place


def entry_of_step(house, steps, luck):
    """What goes into the log when the helper goes; there are acts where it stands."""
    before = house.stand
    number = act_done(house, before, steps)
    act = house.acts[before[0]][number]
    behind = stand_behind(act, before, place_by_luck(act.weights, luck))
    return Entry(number, steps, before, behind, act.pays)


def go(house, steps, luck):
    if not 1 <= steps <= MOST_STEPS or luck > MOST_LUCK:
        return [NOT_AS_TOLD]
    if len(house.log) == MOST_ENTRIES:
        return [FULL]
    if len(house.acts[house.stand[0]]) == 0:
        return [NO_ACT]
    entry = entry_of_step(house, steps, luck)
    house.log.append(entry)
    house.stand = entry.behind
    return [entry.number] + list(entry.behind)
