"""The calls that tell what was done, and how likely it stays who it is."""

from changeditself.becoming import likely_table
from changeditself.house import MOST_STEPS
from changeditself.refusals import NO_SUCH, NOT_AS_TOLD

ENTRY = 15
PAID = 16
BECAME = 17
STILL = 18


def answer_telling(house, number, given):
    if number == ENTRY:
        return tell_entry(house, given[0])
    if number == PAID:
        return tell_paid(house)
    if number == BECAME:
        return tell_became(house)
    return tell_still(house, given[0])


def tell_entry(house, number):
    if number >= len(house.log):
        return [NO_SUCH]
    entry = house.log[number]
    return [entry.number, entry.steps] + list(entry.before) + list(entry.behind)


def tell_paid(house):
    paid = [sum([entry.pays[lights] for entry in house.log]) for lights in range(house.selves)]
    return [len(house.log)] + paid


def tell_became(house):
    return [len([entry for entry in house.log if entry.before[1] != entry.behind[1]])]


def tell_still(house, steps):
    if steps > MOST_STEPS:
        return [NOT_AS_TOLD]
    return [0] + list(likely_table(house, steps)[house.stand][house.stand[1]])
