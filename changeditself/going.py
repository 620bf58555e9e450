"""The calls by which the helper goes, by told luck, and the one that tells it ahead."""

from changeditself.foresight import best_act, worth_table, worth_tables
from changeditself.house import MOST_ENTRIES, Entry, may_go, stand_behind
from changeditself.refusals import FULL, NO_ACT, NOT_AS_TOLD

GO = 12
IFGO = 13
RUN = 14
MOST_LUCK = 999


def answer_going(house, number, given):
    if number == GO:
        return go(house, given[0], given[1])
    if number == IFGO:
        return tell_ahead(house, given[0], given[1])
    return run(house, given[0], given[1:])


def place_by_luck(weights, luck):
    """The first place up to which a thousand times the share of all weights is above the luck."""
    total = sum(weights)
    place = 0
    reached = weights[0]
    while luck * total >= 1000 * reached:
        place = place + 1
        reached = reached + weights[place]
    return place


def has_ended(house):
    return len(house.acts[house.stand[0]]) == 0


def next_entry(house, steps, luck, later):
    """What goes into the log when the helper goes; there are acts where it stands."""
    before = house.stand
    acts = house.acts[before[0]]
    number = best_act(acts, before, later)
    act = acts[number]
    behind = stand_behind(act, before, place_by_luck(act.weights, luck))
    return Entry(number, steps, before, behind, act.pays)


def do_entry(house, entry):
    house.log.append(entry)
    house.stand = entry.behind


def tell_ahead(house, steps, luck):
    if not may_go(steps) or luck > MOST_LUCK:
        return [NOT_AS_TOLD]
    if has_ended(house):
        return [NO_ACT]
    entry = next_entry(house, steps, luck, worth_table(house, steps - 1))
    return [entry.number] + list(entry.behind)


def go(house, steps, luck):
    if not may_go(steps) or luck > MOST_LUCK:
        return [NOT_AS_TOLD]
    if len(house.log) == MOST_ENTRIES:
        return [FULL]
    if has_ended(house):
        return [NO_ACT]
    entry = next_entry(house, steps, luck, worth_table(house, steps - 1))
    do_entry(house, entry)
    return [entry.number] + list(entry.behind)


def is_luck_row(row, steps):
    return len(row) == steps and all([0 <= luck <= MOST_LUCK for luck in row])


def run(house, steps, row):
    if not may_go(steps) or not is_luck_row(row, steps):
        return [NOT_AS_TOLD]
    # There must be room for all steps, though the run may end earlier.
    if len(house.log) > MOST_ENTRIES - steps:
        return [FULL]
    worths = worth_tables(house, steps - 1)
    done = 0
    while done < steps and not has_ended(house):
        left = steps - done
        do_entry(house, next_entry(house, left, row[done], worths[left - 1]))
        done = done + 1
    return [done] + list(house.stand)
