import unittest

from asking import (act, addtwins, ask, became, begin, call, cost, count, does, entry, go, holds, ifgo, joined, lights,
                    lock, lonely, paid, parted, promiseis, promisenever, promisestay, promiseworth, run, stand, still,
                    turn, unact, unpromise, who)
from changeditself.helper import answers

# All calls there are, one way or another.
LONG = [begin(3, 2), act(0, 1, 0, 1, 1, 0), act(0, 0, 1, 0, 1, 1), turn(0, 0, 2), act(1, -2, 2, 1, 1, 1), lock(1, 0, 1),
        addtwins(0), lonely(), who(), lights(0, 0, 0, 4), cost(0, 1, 0, 0, 3), does(0, 1, 0, 2), go(4, 400), go(3, 900),
        act(0, 10 ** 30, -10 ** 30), stand(2, 1, 1), go(1, 1), unact(0, 1), begin(9, 9), who()]
LATE = [promisenever(1, 4), promisestay(0, 2, 4), promiseworth(1, 1, 1, 1, 2), promiseworth(0, 0, 0, 1, 10 ** 30),
        promiseis(2), unpromise(1), holds(0, 0, 0, 4), stand(0, 0, 0), ifgo(2, 999), run(2, 0, 999), run(1, 2, 3),
        entry(0), entry(2), entry(9), paid(), became(), still(0), still(4), unact(1, 0), count()]


class ShapeTest(unittest.TestCase):
    def test_how_answers_are_written(self):
        line = joined([begin(2, 1), act(0, 3, 1, 1), lights(0, 0, 0, 2), does(1, 0, 0, 1), who()])
        self.assertEqual(answers(line), [1, 0, 1, 0, 3, 1, 9, 2, 1, -33, 4, 0, 0, 0, 0])

    def test_how_calls_are_written(self):
        self.assertEqual(answers([0, 2, 2, 1, 0, 1, 4, 0, 3, 1, 1, 0, 7, 0, 0, 1, 1, 0, 0]),
                         [1, 0, 1, 0, 4, 0, 0, 0, 0, 1, -22])

    def test_one_call(self):
        self.assertEqual(answers([7, 0, 0]), [1, -11])
        self.assertEqual(answers([0, 2, 4, 3, 0]), [1, 0])

    def test_sixty_calls(self):
        self.assertEqual(len(LONG + LATE + LONG), 60)
        told = ask(*LONG, *LATE, *LONG)
        self.assertEqual(len(told), 60)
        # The last third begins anew.
        self.assertEqual(told[:20], told[40:])
        self.assertEqual(told[:9], [[0], [0], [1], [0], [0], [0], [1], [0], [0, 0, 0, 0]])
        self.assertEqual(told[12:14], [[2, 0, 0, 0], [2, 1, 0, 0]])
        self.assertEqual(told[14:20], [[-22], [0, 1, 0, 0], [-33], [2], [-22], [0, 2, 1, 1]])

    def test_all_calls(self):
        self.assertEqual({one[0] for one in LONG + LATE}, set(range(26)))
        # Place 0 has act 0, which turns into self 1, and its twin; place 1 one act, and place 2 none. By the first two
        # entries self 0 did the twin, as act 2. With 2 steps left it does act 0, as the twin brings no more.
        told = ask(*LONG, *LATE)[20:]
        self.assertEqual(told[:7], [[0], [1], [2], [-22], [2, 1, 1, 1, 1, 2], [2], [0]])
        self.assertEqual(told[7:11], [[0, 2, 1, 1], [0, 1, 1, 0], [2, 1, 1, 0], [-22]])
        self.assertEqual(told[11:14], [[2, 4, 0, 0, 0, 0, 0, 0], [0, 2, 0, 0, 0, 0, 1, 0], [-2]])
        self.assertEqual(told[14:], [[4, 4, 0], [1], [0, 1, 1], [0, 1, 1], [-30], [4, 3, 2, 2, 4]])

    def test_the_longest_line(self):
        widest = call(1, 0, *[10 ** 30] * 9)
        self.assertEqual(len(widest) * 60, 780)
        self.assertEqual(ask(*[widest] * 60), [[-11]] * 60)
        self.assertEqual(ask(begin(2, 1), *[widest] * 59), [[0]] + [[-22]] * 59)

    def test_the_longest_rows_of_the_others(self):
        rows = [run(4, *[0] * 6), promiseworth(0, 0, 0, 1, *[-10 ** 30] * 4), run(4, *[0] * 4)]
        self.assertEqual(ask(begin(2, 1), *rows), [[0], [-22], [-22], [0, 0, 0, 0]])

    def test_only_whole_numbers_are_given_back(self):
        told = answers(joined(LONG + LATE))
        self.assertIs(type(told), list)
        self.assertEqual({type(number) for number in told}, {int})


class NothingKeptTest(unittest.TestCase):
    def test_what_is_handed_in_is_not_changed(self):
        line = joined(LONG + LATE)
        copy = list(line)
        answers(line)
        self.assertEqual(line, copy)

    def test_the_same_list_again_with_others_between(self):
        line = joined(LONG + LATE)
        first = answers(line)
        answers(joined([begin(2, 1), act(0, 9, 1, 1), stand(1, 0, 1), go(1, 0)]))
        answers(joined([begin(2, 1)] + [act(0, 9, 1, 0)] + [go(1, 0)] * 17))
        self.assertEqual(answers(line), first)

    def test_a_new_object_at_each_list(self):
        answers(joined([begin(2, 1), act(0, 9, 1, 1), stand(1, 0, 1)]))
        self.assertEqual(parted(answers(joined([who(), begin(2, 1), who(), does(0, 0, 0, 1)]))),
                         [[-11], [0], [0, 0, 0, 0], [-33]])

    def test_what_was_given_back_may_be_changed(self):
        line = joined(LONG + LATE)
        first = answers(line)
        copy = list(first)
        first.clear()
        self.assertEqual(answers(line), copy)
