"""The calls that put the helper somewhere, and those that only ask."""

from changeditself.foresight import best_act, worth_table
from changeditself.house import MOST_STEPS, has_place, has_self, may_go
from changeditself.ratio import difference
from changeditself.refusals import NO_ACT, NO_SUCH, NOT_AS_TOLD
from changeditself.twins import lonely_acts

STAND = 6
WHO = 7
DOES = 8
LIGHTS = 9
COST = 10
LONELY = 11


def answer_question(house, number, given):
    if number == STAND:
        return put_helper(house, given[0], given[1], given[2])
    if number == WHO:
        return tell_stand(house)
    if number == DOES:
        return tell_act(house, given[0], given[1], given[2], given[3])
    if number == LIGHTS:
        return tell_lights(house, given[0], given[1], given[2], given[3])
    if number == COST:
        return tell_cost(house, given[0], given[1], given[2], given[3], given[4])
    return tell_lonely(house)


def put_helper(house, place, who, locked):
    if not has_place(house, place) or not has_self(house, who):
        return [NO_SUCH]
    if locked > 1:
        return [NOT_AS_TOLD]
    answer = tell_stand(house)
    house.stand = (place, who, locked)
    return answer


def tell_stand(house):
    return [0] + list(house.stand)


def tell_act(house, place, who, locked, steps):
    if not has_place(house, place) or not has_self(house, who):
        return [NO_SUCH]
    if locked > 1 or not may_go(steps):
        return [NOT_AS_TOLD]
    acts = house.acts[place]
    if len(acts) == 0:
        return [NO_ACT]
    return [best_act(acts, (place, who, locked), worth_table(house, steps - 1))]


def tell_lights(house, place, who, locked, steps):
    if not has_place(house, place) or not has_self(house, who):
        return [NO_SUCH]
    if locked > 1 or steps > MOST_STEPS:
        return [NOT_AS_TOLD]
    answer = [house.selves]
    for worth in worth_table(house, steps)[(place, who, locked)]:
        answer.extend(worth)
    return answer


def tell_cost(house, who, other, place, locked, steps):
    if not has_self(house, who) or not has_self(house, other) or not has_place(house, place):
        return [NO_SUCH]
    if locked > 1 or steps > MOST_STEPS:
        return [NOT_AS_TOLD]
    table = worth_table(house, steps)
    as_itself = table[(place, who, locked)][who]
    as_other = table[(place, other, locked)][who]
    return [0] + list(difference(as_itself, as_other))


def tell_lonely(house):
    found = lonely_acts(house)
    return [len(found) // 2] + found
