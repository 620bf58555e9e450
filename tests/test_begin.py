from asking import (LARGEST, AskCase, act, ask, became, begin, call, count, does, entry, go, lights, lock, lonely, paid,
                    promiseis, promisenever, stand, turn, unact, who)

# Each call but begin, as the interface writes it, with numbers that would be taken or refused otherwise.
OTHERS = [
    call(1, 0, 1, 1, 1), call(1, 0), call(1, LARGEST, 10 ** 30), call(2, 0, 0), call(3, 0, 0, 0),
    call(4, 0, 0, 0), call(5, 0), call(6, 0, 0, 0), call(6, 0, 0, 2), call(7), call(8, 0, 0, 0, 1),
    call(9, 0, 0, 0, 5), call(10, 0, 0, 0, 0, 0), call(11), call(12, 1, 0), call(12, 0, 1000), call(13, 1, 0),
    call(14, 1, 0), call(14, 0), call(15, 0), call(16), call(17), call(18, 0), call(19, 0, 1), call(20, 0, 0, 1),
    call(21, 0, 0, 0, 1, -10 ** 30), call(21, 0, 0, 0, 1), call(22, 0), call(23, 0), call(24, 0, 0, 0, 1), call(25),
]


class BeginTest(AskCase):
    def test_as_many_places_and_selves_as_told(self):
        for n in (2, 3, 4):
            for v in (1, 2, 3):
                self.check([], (begin(n, v), [0]),
                           (stand(n - 1, v - 1, 0), [0, 0, 0, 0]),
                           (stand(n, 0, 0), [-2]), (stand(0, v, 0), [-2]),
                           (lights(0, 0, 0, 0), [v] + [0, 1] * v))

    def test_no_acts_at_first(self):
        self.check([begin(4, 1)], (unact(0, 0), [-2]), (unact(3, 0), [-2]), (does(2, 0, 0, 1), [-33]), (lonely(), [0]))

    def test_stands_as_at_first(self):
        self.check([begin(4, 3)], (who(), [0, 0, 0, 0]))

    def test_wrong_numbers_of_places(self):
        for n in (0, 1, 5, LARGEST):
            self.check([], (begin(n, 1), [-22]), (who(), [-11]))

    def test_wrong_numbers_of_selves(self):
        for v in (0, 4, LARGEST):
            self.check([], (begin(2, v), [-22]), (who(), [-11]))

    def test_both_wrong(self):
        self.check([], (begin(5, 4), [-22]), (begin(0, 0), [-22]), (begin(4, 3), [0]))


class NotBegunTest(AskCase):
    def test_all_else_ahead_of_begin(self):
        for one in OTHERS:
            self.check([], (one, [-11]), (begin(2, 1), [0]), (who(), [0, 0, 0, 0]))

    def test_all_else_behind_a_refused_begin(self):
        for one in OTHERS:
            self.check([begin(1, 1), begin(2, 4)], (one, [-11]), (begin(2, 1), [0]))

    def test_what_was_asked_ahead_of_begin_did_nothing(self):
        self.check([act(0, 5, 1, 1), stand(1, 0, 1), begin(2, 1)],
                   (who(), [0, 0, 0, 0]), (does(0, 0, 0, 1), [-33]))

    def test_a_whole_line_ahead_of_begin(self):
        self.assertEqual(ask(*[who()] * 60), [[-11]] * 60)


class BeginAgainTest(AskCase):
    made = [begin(2, 2), act(0, 4, 1, 1, 0), turn(0, 0, 2), lock(0, 0, 1), go(1, 0), promisenever(1, 4)]

    def test_all_is_new(self):
        self.check(self.made, (who(), [0, 0, 1, 1]), (begin(3, 1), [0]), (who(), [0, 0, 0, 0]),
                   (does(0, 0, 0, 1), [-33]), (lights(0, 0, 0, 4), [1, 0, 1]), (lonely(), [0]),
                   (count(), [4, 3, 1, 0, 0]), (entry(0), [-2]), (paid(), [0, 0]), (became(), [0]),
                   (promiseis(0), [-2]),
                   (stand(2, 0, 0), [0, 0, 0, 0]), (stand(0, 1, 0), [-2]),
                   (act(0, 1, 0, 0, 1), [0]), (turn(0, 0, 0), [0]), (lock(0, 0, 0), [0]))

    def test_with_the_same_numbers_too(self):
        self.check(self.made, (count(), [4, 2, 2, 1, 1]), (begin(2, 2), [0]), (who(), [0, 0, 0, 0]),
                   (unact(0, 0), [-2]), (count(), [4, 2, 2, 0, 0]))

    def test_a_refused_one_changes_nothing(self):
        for wrong in (begin(1, 2), begin(5, 2), begin(3, 0), begin(3, 4)):
            self.check(self.made, (wrong, [-22]), (who(), [0, 0, 1, 1]), (lonely(), [1, 0, 0]),
                       (lights(0, 0, 1, 1), [2, 4, 1, 1, 1]), (turn(0, 0, 0), [2]), (lock(0, 0, 0), [1]),
                       (count(), [4, 2, 2, 1, 1]), (entry(0), [0, 1, 0, 0, 0, 0, 1, 1]), (paid(), [1, 4, 1]),
                       (promiseis(0), [0, 0, 1, 0, 4, 0]))
