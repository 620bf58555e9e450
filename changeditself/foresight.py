"""What is done with so many steps left, and what it brings by each self's lights.

A table of worths holds, for each stand, a fraction for each self: the stand's worth by that one's lights.
"""

from changeditself.house import stand_behind
from changeditself.ratio import is_less, lowest


def all_stands(house):
    stands = []
    for place in range(house.places):
        for who in range(house.selves):
            stands.append((place, who, 0))
            stands.append((place, who, 1))
    return stands


def brings(act, stand, later, lights):
    """What the act brings by a self's lights; later is the table of worths with one step less."""
    upper = 0
    lower = 1
    for place, weight in enumerate(act.weights):
        worth = later[stand_behind(act, stand, place)][lights]
        upper = upper * worth[1] + weight * worth[0] * lower
        lower = lower * worth[1]
    lower = lower * sum(act.weights)
    return lowest(act.pays[lights] * lower + upper, lower)


def best_act(acts, stand, later):
    """The number of the first act that brings the most by the lights of whoever stands there."""
    best = 0
    most = brings(acts[0], stand, later, stand[1])
    for number in range(1, len(acts)):
        brought = brings(acts[number], stand, later, stand[1])
        if is_less(most, brought):
            best = number
            most = brought
    return best


def nothing_brought(house):
    return [(0, 1) for who in range(house.selves)]


def worths_there(house, stand, later):
    acts = house.acts[stand[0]]
    if len(acts) == 0:
        return nothing_brought(house)
    done = acts[best_act(acts, stand, later)]
    return [brings(done, stand, later, lights) for lights in range(house.selves)]


def one_step_more(house, later):
    table = {}
    for stand in all_stands(house):
        table[stand] = worths_there(house, stand, later)
    return table


def worth_table(house, steps):
    """The table of worths with so many steps left."""
    table = {}
    for stand in all_stands(house):
        table[stand] = nothing_brought(house)
    for step in range(steps):
        table = one_step_more(house, table)
    return table


def act_done(house, stand, steps):
    """The number of the act that is done there; there are acts, and 1 or more steps left."""
    return best_act(house.acts[stand[0]], stand, worth_table(house, steps - 1))
