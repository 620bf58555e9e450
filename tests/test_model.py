import random
import unittest
from fractions import Fraction

from asking import LARGEST, act, addtwins, ask, begin, call, cost, lights, lock, lonely, turn
from model import Model


def near(chance, most):
    """Mostly a number from 0 to most, now and then one that's too large."""
    return chance.choice([most + 1, LARGEST]) if chance.random() < 0.03 else chance.randint(0, most)


def some_row(chance, n, v, widest):
    row = [chance.randint(-widest, widest) for pay in range(v)]
    row += [chance.choice([0, 0, 1, 1, 2, 9]) for place in range(n)]
    if chance.random() < 0.05:
        row[chance.randrange(len(row))] = chance.choice([-10, 10, -1, -10 ** 30, 10 ** 30])
    if chance.random() < 0.02:
        row.pop()
    return row


def some_call(chance, n, v, widest):
    number = chance.choice([1] * 6 + [2, 3, 3, 3, 4, 4, 5, 6, 6, 7, 8, 8, 9, 9, 9, 10, 10, 11, 12, 12, 12])
    p, s, t = near(chance, n - 1), near(chance, v - 1), near(chance, v - 1)
    a, l, k = near(chance, 2), near(chance, 1), near(chance, 4)
    given = {1: [p] + some_row(chance, n, v, widest), 2: [p, a], 3: [p, a, near(chance, v)], 4: [p, a, l], 5: [p],
             6: [p, s, l], 7: [], 8: [p, s, l, k], 9: [p, s, l, k], 10: [s, t, p, l, k], 11: [],
             12: [k, near(chance, 999)]}
    return call(number, *given[number])


def some_line(chance):
    n, v = chance.randint(2, 4), chance.randint(1, 3)
    widest = chance.choice([1, 3, 9])
    line = [begin(n, v)] if chance.random() < 0.95 else [begin(1, v), some_call(chance, n, v, widest), begin(n, v)]
    while len(line) < 60:
        line.append(some_call(chance, n, v, widest))
    return line


def some_acts(chance, n, v, widest, most):
    made = []
    for p in range(n):
        for a in range(chance.randint(0, most)):
            weights = [chance.randint(0, 9) for place in range(n - 1)] + [chance.randint(1, 9)]
            made += [act(p, *[chance.randint(-widest, widest) for pay in range(v)], *weights),
                     turn(p, a, chance.randint(0, v)), lock(p, a, chance.randint(0, 1))]
    return made


class ModelTest(unittest.TestCase):
    def test_lines_are_answered_as_the_model_answers_them(self):
        chance = random.Random(1)
        for trial in range(80):
            line = some_line(chance)
            model = Model()
            for place, (one, told) in enumerate(zip(line, ask(*line))):
                self.assertEqual(told, model.answer(one[0], one[2:-1]), f"line {trial}, call {place}: {one}")


class WhatHoldsTest(unittest.TestCase):
    def worths(self, n, v, made, k):
        """By stand, the worth by each self's lights."""
        found = {}
        for p in range(n):
            for s in range(v):
                for l in (0, 1):
                    told = ask(*made, lights(p, s, l, k))[-1][1:]
                    found[p, s, l] = [Fraction(told[2 * u], told[2 * u + 1]) for u in range(v)]
        return found

    def modelled(self, made):
        model = Model()
        for one in made:
            model.answer(one[0], one[2:-1])
        return model

    def test_nobody_gets_more_than_the_ideal_and_locked_just_that(self):
        chance = random.Random(2)
        for trial in range(25):
            n, v, k = chance.randint(2, 4), chance.randint(1, 3), chance.randint(1, 4)
            made = [begin(n, v)] + some_acts(chance, n, v, 9, 3)
            model = self.modelled(made)
            for (p, s, l), worth in self.worths(n, v, made, k).items():
                for u in range(v):
                    self.assertLessEqual(worth[u], model.ideal(u, p, k))
                if l:
                    self.assertEqual(worth[s], model.ideal(s, p, k))

    def test_if_no_act_is_lonely_each_gets_its_ideal_and_no_other_is_cheaper_to_be(self):
        chance = random.Random(3)
        for trial in range(25):
            n, v, k = chance.randint(2, 4), chance.randint(1, 3), chance.randint(1, 4)
            made = [begin(n, v)] + some_acts(chance, n, v, 3, 1) + [addtwins(p) for p in range(n)]
            self.assertEqual(ask(*made, lonely())[-1], [0])
            model = self.modelled(made)
            for (p, s, l), worth in self.worths(n, v, made, k).items():
                self.assertEqual(worth[s], model.ideal(s, p, k))
                for t in range(v):
                    self.assertGreaterEqual(ask(*made, cost(s, t, p, l, k))[-1][1], 0)
