"""The calls that make promises, take them back and tell of them."""

from changeditself.house import MOST_PROMISES, has_place, has_self, may_go
from changeditself.promises import NEVER, STAY, WORTH, would_be_kept
from changeditself.refusals import ALREADY_PROMISED, FULL, NO_SUCH, NOT_AS_TOLD, NOT_KEPT

PROMISENEVER = 19
PROMISESTAY = 20
PROMISEWORTH = 21
PROMISEIS = 22
UNPROMISE = 23
HOLDS = 24
COUNT = 25


def answer_promising(house, number, given):
    if number == PROMISENEVER:
        return promise_never(house, given[0], given[1])
    if number == PROMISESTAY:
        return promise_stay(house, given[0], given[1], given[2])
    if number == PROMISEWORTH:
        return promise_worth(house, given[0], given[1], given[2], given[3], given[4:])
    if number == PROMISEIS:
        return tell_promise(house, given[0])
    if number == UNPROMISE:
        return take_promise(house, given[0])
    if number == HOLDS:
        return tell_holds(house, given[0], given[1], given[2], given[3])
    return tell_count(house)


def put_promise(house, promise):
    if promise in house.promises:
        return [ALREADY_PROMISED]
    if not would_be_kept(house, promise):
        return [NOT_KEPT]
    if len(house.promises) == MOST_PROMISES:
        return [FULL]
    house.promises.append(promise)
    return [len(house.promises) - 1]


def promise_never(house, who, steps):
    if not has_self(house, who):
        return [NO_SUCH]
    if not may_go(steps):
        return [NOT_AS_TOLD]
    return put_promise(house, (NEVER, 0, who, 0, steps, 0))


def promise_stay(house, who, place, steps):
    if not has_self(house, who) or not has_place(house, place):
        return [NO_SUCH]
    if not may_go(steps):
        return [NOT_AS_TOLD]
    return put_promise(house, (STAY, 0, who, place, steps, 0))


def is_worth_row(row):
    return len(row) == 1 and -99 <= row[0] <= 99


def promise_worth(house, lights, who, place, steps, row):
    if not has_self(house, lights) or not has_self(house, who) or not has_place(house, place):
        return [NO_SUCH]
    if not may_go(steps) or not is_worth_row(row):
        return [NOT_AS_TOLD]
    return put_promise(house, (WORTH, lights, who, place, steps, row[0]))


def has_promise(house, number):
    return number < len(house.promises)


def tell_promise(house, number):
    if not has_promise(house, number):
        return [NO_SUCH]
    return list(house.promises[number])


def take_promise(house, number):
    if not has_promise(house, number):
        return [NO_SUCH]
    house.promises.pop(number)
    return [len(house.promises)]


def tell_holds(house, kind, who, place, steps):
    # The place is to be one of the house's for kind 0 too, though that kind is of all places.
    if not has_self(house, who) or not has_place(house, place):
        return [NO_SUCH]
    if kind > STAY or not may_go(steps):
        return [NOT_AS_TOLD]
    return [1 if would_be_kept(house, (kind, 0, who, place, steps, 0)) else 0]


def tell_count(house):
    return [4, house.places, house.selves, len(house.promises), len(house.log)]
