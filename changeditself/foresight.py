"""What is done with so many steps left, and what it brings by each self's lights.

A table of worths holds, for each stand, a fraction for each self: the stand's worth by that one's lights. Where a table
is called later, it is the one with one step less.
"""

from changeditself.house import stand_behind
from changeditself.ratio import is_less, lowest


def all_stands(house):
    stands = []
    for place in range(house.places):
        for who in range(house.selves):
            stands.append((place, who, 0))
            stands.append((place, who, 1))
    return stands


def mean_behind(act, stand, table, who):
    """In the mean, the self's fraction in the table, of how one stands behind the act."""
    upper = 0
    lower = 1
    for place, weight in enumerate(act.weights):
        there = table[stand_behind(act, stand, place)][who]
        upper = upper * there[1] + weight * there[0] * lower
        lower = lower * there[1]
    return lowest(upper, lower * sum(act.weights))


def brings(act, stand, later, lights):
    mean = mean_behind(act, stand, later, lights)
    return (act.pays[lights] * mean[1] + mean[0], mean[1])


def best_act(acts, stand, later):
    """The number of the first act that brings the most by the lights of whoever stands there."""
    best = 0
    most = brings(acts[0], stand, later, stand[1])
    for number in range(1, len(acts)):
        brought = brings(acts[number], stand, later, stand[1])
        if is_less(most, brought):
            best = number
            most = brought
    return best


def act_done(house, stand, later):
    """The act that is done there, or None where there are none."""
    acts = house.acts[stand[0]]
    if len(acts) == 0:
        return None
    return acts[best_act(acts, stand, later)]


def nothing_brought(house):
    return [(0, 1) for who in range(house.selves)]


def worths_there(house, stand, later):
    act = act_done(house, stand, later)
    if act is None:
        return nothing_brought(house)
    return [brings(act, stand, later, lights) for lights in range(house.selves)]


def one_step_more(house, later):
    table = {}
    for stand in all_stands(house):
        table[stand] = worths_there(house, stand, later)
    return table


def worth_tables(house, steps):
    """The tables of worths with 0, 1, and so on to so many steps left."""
    ended = {}
    for stand in all_stands(house):
        ended[stand] = nothing_brought(house)
    tables = [ended]
    for step in range(steps):
        tables.append(one_step_more(house, tables[step]))
    return tables


def worth_table(house, steps):
    """The table of worths with so many steps left."""
    return worth_tables(house, steps)[steps]
