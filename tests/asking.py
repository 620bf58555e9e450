"""Writes calls as the interface has them, and takes their answers apart."""

import unittest

from changeditself.helper import answers

LARGEST = 4294967295


def call(number, *numbers):
    return [number, len(numbers), *numbers, 0]


def begin(n, v):
    return call(0, n, v)


def act(p, *row):
    return call(1, p, *row)


def unact(p, a):
    return call(2, p, a)


def turn(p, a, t):
    return call(3, p, a, t)


def lock(p, a, b):
    return call(4, p, a, b)


def addtwins(p):
    return call(5, p)


def stand(p, s, l):
    return call(6, p, s, l)


def who():
    return call(7)


def does(p, s, l, k):
    return call(8, p, s, l, k)


def lights(p, s, l, k):
    return call(9, p, s, l, k)


def cost(s, t, p, l, k):
    return call(10, s, t, p, l, k)


def lonely():
    return call(11)


def go(k, luck):
    return call(12, k, luck)


def ifgo(k, luck):
    return call(13, k, luck)


def run(k, *row):
    return call(14, k, *row)


def entry(i):
    return call(15, i)


def paid():
    return call(16)


def became():
    return call(17)


def still(k):
    return call(18, k)


def promisenever(s, k):
    return call(19, s, k)


def promisestay(s, p, k):
    return call(20, s, p, k)


def promiseworth(u, s, p, k, *row):
    return call(21, u, s, p, k, *row)


def promiseis(i):
    return call(22, i)


def unpromise(i):
    return call(23, i)


def holds(w, s, p, k):
    return call(24, w, s, p, k)


def count():
    return call(25)


def joined(calls):
    return [number for one in calls for number in one]


def parted(told):
    """The answers of a list that was given back, one list a call."""
    found = []
    at = 0
    while at < len(told):
        found.append(told[at + 1:at + 1 + told[at]])
        at += 1 + told[at]
    return found


def ask(*calls):
    return parted(answers(joined(calls)))


class AskCase(unittest.TestCase):
    """What is to be answered is written as pairs: a call, and the list that is its answer."""

    def check(self, made, *pairs):
        """The answers of the pairs' calls, behind those that make the house."""
        asked = [pair[0] for pair in pairs]
        self.assertLessEqual(len(made) + len(asked), 60, "a line has at most 60 calls")
        told = ask(*made, *asked)[len(made):]
        self.assertEqual(len(told), len(asked))
        for place, answer in enumerate(told):
            self.assertEqual(answer, pairs[place][1], f"call {place} behind the making: {asked[place]}")
