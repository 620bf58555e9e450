"""Who it is behind some steps: how likely, and whether surely the same; and whether a self turns anywhere.

The worths that are handed in here are tables of worths, with 0, 1 and so on steps left.
"""

from changeditself.foresight import act_done, all_stands, mean_behind, worth_tables
from changeditself.house import stand_behind


def likely_one_step_more(house, later, likely):
    """The table of how likely it is who in the end, with one step more than the two tables that are handed in."""
    table = {}
    for stand in all_stands(house):
        act = act_done(house, stand, later)
        if act is None:
            table[stand] = likely[stand]
        else:
            table[stand] = [mean_behind(act, stand, likely, who) for who in range(house.selves)]
    return table


def likely_table(house, steps):
    """For each stand, a fraction for each self: how likely it is that one behind so many steps."""
    table = {}
    for stand in all_stands(house):
        table[stand] = [(1, 1) if who == stand[1] else (0, 1) for who in range(house.selves)]
    worths = worth_tables(house, steps)
    for step in range(steps):
        table = likely_one_step_more(house, worths[step], table)
    return table


def turns_there(house, place, who, later):
    """Whether the self, not locked, does an act there that turns it into another one."""
    stand = (place, who, 0)
    act = act_done(house, stand, later)
    return act is not None and stand_behind(act, stand, place)[1] != who


def never_turns(house, who, steps, worths):
    """Whether the self turns nowhere, with any number of steps from 1 to so many left."""
    for step in range(steps):
        if any([turns_there(house, place, who, worths[step]) for place in range(house.places)]):
            return False
    return True


def stands_behind(house, stands, later):
    """How it may stand behind one step, if it stands in one of these ways ahead of it, each way once."""
    found = {}
    for stand in stands:
        act = act_done(house, stand, later)
        if act is None:
            found[stand] = True
        else:
            for place, weight in enumerate(act.weights):
                if weight > 0:
                    found[stand_behind(act, stand, place)] = True
    return list(found)


def surely_stays(house, who, place, steps, worths):
    """Whether, standing there not locked, it is surely that self behind each of 0 to so many steps."""
    stands = [(place, who, 0)]
    for done in range(steps):
        stands = stands_behind(house, stands, worths[steps - done - 1])
        if any([stand[1] != who for stand in stands]):
            return False
    return True
