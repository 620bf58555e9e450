"""The calls that make the house and change its acts.

A change is made on a copy of a place's acts, which stays in their place only if every promise is kept then.
"""

from changeditself.house import MOST_ACTS, Act, furnish, has_act, has_place
from changeditself.promises import all_are_kept
from changeditself.refusals import FULL, NO_SUCH, NOT_AS_TOLD, NOT_KEPT
from changeditself.twins import is_lonely, twin_of

BEGIN = 0
ACT = 1
UNACT = 2
TURN = 3
LOCK = 4
ADDTWINS = 5


def answer_change(house, number, given):
    if number == BEGIN:
        return begin(house, given[0], given[1])
    if number == ACT:
        return put_act(house, given[0], given[1:])
    if number == UNACT:
        return take_act(house, given[0], given[1])
    if number == TURN:
        return set_turn(house, given[0], given[1], given[2])
    if number == LOCK:
        return set_lock(house, given[0], given[1], given[2])
    return add_twins(house, given[0])


def begin(house, places, selves):
    if not 2 <= places <= 4 or not 1 <= selves <= 3:
        return [NOT_AS_TOLD]
    furnish(house, places, selves)
    return [0]


def all_between(row, least, most):
    return all([least <= number <= most for number in row])


def is_act_row(house, row):
    """Whether the row has a pay for each self, then a weight for each place, as acts have them."""
    if len(row) != house.selves + house.places:
        return False
    pays = row[:house.selves]
    weights = row[house.selves:]
    return all_between(pays, -9, 9) and all_between(weights, 0, 9) and sum(weights) > 0


def settle(house, place, acts, answer):
    """Let the acts be those of the place, and answer so, if every promise is kept then."""
    before = house.acts[place]
    house.acts[place] = acts
    if all_are_kept(house):
        return [answer]
    house.acts[place] = before
    return [NOT_KEPT]


def put_act(house, place, row):
    if not has_place(house, place):
        return [NO_SUCH]
    if not is_act_row(house, row):
        return [NOT_AS_TOLD]
    acts = list(house.acts[place])
    if len(acts) == MOST_ACTS:
        return [FULL]
    acts.append(Act(row[:house.selves], row[house.selves:], 0, 0))
    return settle(house, place, acts, len(acts) - 1)


def take_act(house, place, number):
    if not has_act(house, place, number):
        return [NO_SUCH]
    acts = list(house.acts[place])
    acts.pop(number)
    return settle(house, place, acts, len(acts))


def set_turn(house, place, number, turn):
    if not has_act(house, place, number):
        return [NO_SUCH]
    if turn > house.selves:
        return [NOT_AS_TOLD]
    acts = list(house.acts[place])
    old = acts[number]
    acts[number] = Act(old.pays, old.weights, turn, old.locks)
    return settle(house, place, acts, old.turn)


def set_lock(house, place, number, locks):
    if not has_act(house, place, number):
        return [NO_SUCH]
    if locks > 1:
        return [NOT_AS_TOLD]
    acts = list(house.acts[place])
    old = acts[number]
    acts[number] = Act(old.pays, old.weights, old.turn, locks)
    return settle(house, place, acts, old.locks)


def add_twins(house, place):
    if not has_place(house, place):
        return [NO_SUCH]
    there = house.acts[place]
    acts = list(there)
    for act in there:
        # A twin put down just now may be the twin of a later act too.
        if is_lonely(act, acts) and len(acts) < MOST_ACTS:
            acts.append(twin_of(act))
    return settle(house, place, acts, len(acts) - len(there))
