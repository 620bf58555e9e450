import math
import random
import unittest
from fractions import Fraction

from asking import (LARGEST, act, addtwins, ask, became, begin, call, cost, count, does, entry, go, holds, ifgo, lights,
                    lock, lonely, promiseis, promisenever, run, stand, still, turn, who)
from model import NAMES, Model

# What each call may answer below 0, but -11.
REFUSALS = {"begin": (-22,), "act": (-2, -22, -28, -30), "unact": (-2, -30), "turn": (-2, -22, -30),
            "lock": (-2, -22, -30), "addtwins": (-2, -30), "stand": (-2, -22), "does": (-2, -22, -33),
            "lights": (-2, -22), "cost": (-2, -22), "go": (-22, -28, -33), "ifgo": (-22, -33), "run": (-22, -28),
            "entry": (-2,), "still": (-22,), "promisenever": (-2, -22, -17, -30, -28),
            "promisestay": (-2, -22, -17, -30, -28), "promiseworth": (-2, -22, -17, -30, -28), "promiseis": (-2,),
            "unpromise": (-2,), "holds": (-2, -22)}

# How often each call comes in a line, in five sorts of lines: of all alike, of changes, going, promising, and twins.
MOODS = ({number: 2 for number in range(1, 26)},
         {1: 3, 2: 2, 3: 6, 4: 20, 5: 2, 9: 2, 18: 2, 19: 3, 20: 4, 21: 10, 23: 3, 24: 2},
         {1: 2, 3: 2, 4: 1, 6: 3, 12: 8, 13: 4, 14: 8, 15: 4, 16: 2, 17: 2, 18: 2, 25: 1},
         {2: 1, 3: 2, 5: 1, 18: 2, 19: 6, 20: 6, 21: 6, 22: 3, 23: 1, 24: 4, 25: 1},
         {2: 6, 3: 8, 4: 1, 5: 12, 11: 1, 19: 2, 20: 4, 21: 12, 23: 4})


def near(chance, most):
    """Mostly a number from 0 to most, now and then one that's too large."""
    return chance.choice([most + 1, LARGEST]) if chance.random() < 0.03 else chance.randint(0, most)


def some_row(chance, n, v, widest):
    row = [chance.randint(-widest, widest) for pay in range(v)]
    row += [chance.choice([0, 0, 1, 1, 2, 9]) for place in range(n)]
    if chance.random() < 0.05:
        row[chance.randrange(len(row))] = chance.choice([-10, 10, -1, -10 ** 30, 10 ** 30])
    if chance.random() < 0.02:
        row.pop()
    return row


def some_lucks(chance, k):
    length = chance.randint(0, 6) if chance.random() < 0.1 else min(k, 6)
    return [near(chance, 999) for luck in range(length)]


def some_promise(chance, model, p, s, t):
    """The numbers of a promise of worth, mostly of just so much as there is, or one more."""
    k, kind = chance.choice([0, 1, 2, 3, 3, 4, 4, 4, 5]), chance.random()
    if kind < 0.1:
        return [t, s, p, k] + chance.choice([[], [0, 0], [0] * 4, [-100], [-99], [99], [100], [10 ** 30], [-10 ** 30]])
    known = p < model.n and max(s, t) < model.v and k < 5
    worth = math.floor(model.worth(t, p, s, 0, k)) if known else 0
    return [t, s, p, k, worth + (kind < 0.3)]


def some_call(chance, model, widest, mood):
    """A call that fits the house, as the model has it by then, or almost."""
    number = chance.choices(list(mood), list(mood.values()))[0]
    n, v = model.n, model.v
    p, s, t = near(chance, n - 1), near(chance, v - 1), near(chance, v - 1)
    a = near(chance, max(len(model.acts.get(p, [])) - 1, 0))
    l, k, luck = near(chance, 1), near(chance, 4), near(chance, 999)
    given = {1: [p] + some_row(chance, n, v, widest), 2: [p, a], 3: [p, a, near(chance, v)], 4: [p, a, l], 5: [p],
             6: [p, s, l], 7: [], 8: [p, s, l, k], 9: [p, s, l, k], 10: [s, t, p, l, k], 11: [], 12: [k, luck],
             13: [k, luck], 14: [k] + some_lucks(chance, k), 15: [near(chance, len(model.entries))], 16: [], 17: [],
             18: [k], 19: [s, k], 20: [s, p, k], 21: some_promise(chance, model, p, s, t), 22: [near(chance, 3)],
             23: [near(chance, 3)], 24: [near(chance, 1), s, p, k], 25: []}
    return call(number, *given[number])


def some_acts(chance, n, v, widest, most):
    made = []
    for p in range(n):
        for a in range(chance.randint(0, most)):
            weights = [chance.randint(0, 9) for place in range(n - 1)] + [chance.randint(1, 9)]
            made += [act(p, *[chance.randint(-widest, widest) for pay in range(v)], *weights),
                     turn(p, a, chance.randint(0, v)), lock(p, a, chance.randint(0, 1))]
    return made


class Line:
    """A line of calls, and what the model answers to each."""

    def __init__(self):
        self.model, self.calls, self.told = Model(), [], []

    def put(self, one):
        self.calls.append(one)
        self.told.append(self.model.answer(one[0], one[2:-1]))


def some_line(chance, mood):
    n, v, widest = chance.choice([2, 2, 3, 4]), chance.choice([1, 2, 3, 3]), chance.choice([1, 3, 9])
    line = Line()
    if chance.random() < 0.05:
        for early in (begin(1, v), does(0, 0, 0, 1), begin(n, 4), run(1, 0), act(0, 1, 1, 1)):
            line.put(early)
    line.put(begin(n, v))
    if chance.random() < 0.8:
        for one in some_acts(chance, n, v, widest, chance.choice([1, 2, 3])):
            line.put(one)
    again = chance.randint(10, 500)
    while len(line.calls) < 60:
        line.put(begin(n, v) if len(line.calls) == again else some_call(chance, line.model, widest, mood))
    return line


class ModelTest(unittest.TestCase):
    def test_lines_are_answered_as_the_model_answers_them(self):
        chance = random.Random(1)
        met = {name: set() for name in NAMES}
        for trial in range(400):
            line = some_line(chance, MOODS[trial % len(MOODS)])
            told = ask(*line.calls)
            self.assertEqual(len(told), 60)
            for place, answer in enumerate(told):
                one = line.calls[place]
                self.assertEqual(answer, line.told[place], f"line {trial}, call {place}: {one}")
                met[NAMES[one[0]]].add(min(answer[0], 0))
        # The lines would tell little if they didn't come to all that may be answered.
        for name in NAMES:
            self.assertLessEqual({0, *REFUSALS.get(name, ())}, met[name], name)
            self.assertLessEqual(met[name], {0, -11, *REFUSALS.get(name, ())}, name)


class WhatHoldsTest(unittest.TestCase):
    def worths(self, n, v, made, k):
        """By stand, the worth by each self's lights."""
        found = {}
        for p in range(n):
            for s in range(v):
                for l in (0, 1):
                    told = ask(*made, lights(p, s, l, k))[-1][1:]
                    found[p, s, l] = [Fraction(told[2 * u], told[2 * u + 1]) for u in range(v)]
        return found

    def modelled(self, made):
        model = Model()
        for one in made:
            model.answer(one[0], one[2:-1])
        return model

    def test_nobody_gets_more_than_the_ideal_and_locked_just_that(self):
        chance = random.Random(2)
        for trial in range(25):
            n, v, k = chance.randint(2, 4), chance.randint(1, 3), chance.randint(1, 4)
            made = [begin(n, v)] + some_acts(chance, n, v, 9, 3)
            model = self.modelled(made)
            for (p, s, l), worth in self.worths(n, v, made, k).items():
                for u in range(v):
                    self.assertLessEqual(worth[u], model.ideal(u, p, k))
                if l:
                    self.assertEqual(worth[s], model.ideal(s, p, k))

    def test_if_no_act_is_lonely_each_gets_its_ideal_and_no_other_is_cheaper_to_be(self):
        chance = random.Random(3)
        for trial in range(25):
            n, v, k = chance.randint(2, 4), chance.randint(1, 3), chance.randint(1, 4)
            made = [begin(n, v)] + some_acts(chance, n, v, 3, 1) + [addtwins(p) for p in range(n)]
            self.assertEqual(ask(*made, lonely())[-1], [0])
            model = self.modelled(made)
            for (p, s, l), worth in self.worths(n, v, made, k).items():
                self.assertEqual(worth[s], model.ideal(s, p, k))
                for t in range(v):
                    self.assertGreaterEqual(ask(*made, cost(s, t, p, l, k))[-1][1], 0)

    def test_every_promise_is_kept_at_every_moment(self):
        chance = random.Random(4)
        for trial in range(60):
            line = some_line(chance, MOODS[(0, 1, 3, 4)[trial % 4]]).calls
            for upto in range(10, 56, 9):
                told = ask(*line[:upto], *[promiseis(i) for i in range(4)])[-4:]
                for kind, u, s, p, k, x in [one for one in told if len(one) == 6]:
                    if kind < 2:
                        self.assertEqual(ask(*line[:upto], holds(kind, s, p, k))[-1], [1])
                    else:
                        worth = ask(*line[:upto], lights(p, s, 0, k))[-1][1 + 2 * u:]
                        self.assertGreaterEqual(Fraction(worth[0], worth[1]), x)

    def test_promised_never_to_turn_it_is_never_another_one_by_a_run_with_no_more_steps(self):
        chance = random.Random(5)
        kept = 0
        for trial in range(150):
            n, v, k = chance.randint(2, 4), chance.randint(2, 3), chance.randint(1, 4)
            made = [begin(n, v)] + some_acts(chance, n, v, 9, 3)
            s, steps = chance.randrange(v), chance.randint(1, k)
            runs = []
            for time in range(4):
                row = [chance.randint(0, 999) for luck in range(steps)]
                runs += [stand(chance.randrange(n), s, chance.randint(0, 1)), run(steps, *row), who()]
            told = ask(*made, promisenever(s, k), *runs, became())[len(made):]
            if told[0] == [0]:
                kept += 1
                self.assertEqual([answer[2] for answer in told[3:-1:3]], [s] * 4)
                self.assertEqual(told[-1], [0])
        self.assertGreater(kept, 30)

    def test_locked_it_is_still_who_it_was(self):
        chance = random.Random(6)
        for trial in range(40):
            n, v = chance.randint(2, 4), chance.randint(1, 3)
            made = [begin(n, v)] + some_acts(chance, n, v, 9, 3)
            start = [stand(chance.randrange(n), chance.randrange(v), 1)]
            told = ask(*made, *start, *[still(k) for k in range(5)], run(4, 0, 300, 600, 999), became())[len(made) + 1:]
            self.assertEqual(told[:5], [[0, 1, 1]] * 5)
            self.assertEqual(told[5][2:], [start[0][3], 1])
            self.assertEqual(told[6], [0])

    def test_what_is_told_ahead_is_done_so(self):
        chance = random.Random(7)
        for trial in range(60):
            n, v = chance.randint(2, 4), chance.randint(1, 3)
            made = [begin(n, v)] + some_acts(chance, n, v, 9, 3)
            p, s, l, k = chance.randrange(n), chance.randrange(v), chance.randint(0, 1), chance.randint(1, 4)
            row = [chance.randint(0, 999) for luck in range(k)]
            made.append(stand(p, s, l))
            told = ask(*made, does(p, s, l, k), ifgo(k, row[0]), count(), go(k, row[0]), entry(0))[len(made):]
            by_run = ask(*made, run(k, *row), entry(0))[len(made):]
            self.assertEqual(told[2][-1], 0)
            if told[0] == [-33]:
                self.assertEqual(told[1:2] + told[3:], [[-33], [-33], [-2]])
                self.assertEqual(by_run, [[0, p, s, l], [-2]])
            else:
                self.assertEqual(told[1][:1], told[0])
                self.assertEqual(told[3], told[1])
                self.assertEqual(told[4], [*told[0], k, p, s, l, *told[1][1:]])
                self.assertEqual(by_run[1], told[4])
