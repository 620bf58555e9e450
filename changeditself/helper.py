"""The answers to a list of calls on one house, which is new at the list's beginning."""

from changeditself.changes import ADDTWINS, BEGIN, answer_change
from changeditself.going import GO, go
from changeditself.house import House, is_begun
from changeditself.questions import LONELY, answer_question
from changeditself.refusals import NOT_BEGUN


class NotBuilt(Exception):
    """A call that the document tells, and that this program does not answer yet."""


def answer_call(house, number, given):
    if number != BEGIN and not is_begun(house):
        return [NOT_BEGUN]
    if number <= ADDTWINS:
        return answer_change(house, number, given)
    if number <= LONELY:
        return answer_question(house, number, given)
    if number == GO:
        return go(house, given[0], given[1])
    raise NotBuilt(f"call {number} is not built yet")


def answers(calls):
    house = House()
    told = []
    at = 0
    while at < len(calls):
        end = at + 2 + calls[at + 1]
        answer = answer_call(house, calls[at], calls[at + 2:end])
        told.append(len(answer))
        told.extend(answer)
        # Behind a call's numbers stands how many lists it has, which is always 0.
        at = end + 1
    return told
