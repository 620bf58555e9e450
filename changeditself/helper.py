"""The answers to a list of calls on one house, which is new at the list's beginning."""

from changeditself.changes import ADDTWINS, BEGIN, answer_change
from changeditself.going import RUN, answer_going
from changeditself.house import House, is_begun
from changeditself.promising import answer_promising
from changeditself.questions import LONELY, answer_question
from changeditself.refusals import NOT_BEGUN
from changeditself.telling import STILL, answer_telling


def answer_call(house, number, given):
    if number != BEGIN and not is_begun(house):
        return [NOT_BEGUN]
    if number <= ADDTWINS:
        return answer_change(house, number, given)
    if number <= LONELY:
        return answer_question(house, number, given)
    if number <= RUN:
        return answer_going(house, number, given)
    if number <= STILL:
        return answer_telling(house, number, given)
    return answer_promising(house, number, given)


def answers(calls):
    house = House()
    told = []
    at = 0
    while at < len(calls):
        end = at + 2 + calls[at + 1]
        answer = answer_call(house, calls[at], calls[at + 2:end])
        told.append(len(answer))
        told.extend(answer)
        # Behind a call's numbers stands how many lists it has, which is always 0.
        at = end + 1
    return told
