from asking import LARGEST, AskCase, act, begin, does, go, lock, stand, turn, unact, who
from houses import CROSSING


class GoTest(AskCase):
    def test_it_does_what_it_does_there_with_so_many_steps_left(self):
        self.check(CROSSING, (go(1, 0), [0, 1, 1, 0]), (who(), [0, 1, 1, 0]), (go(1, 0), [1, 0, 1, 0]))
        self.check(CROSSING, (go(2, 0), [1, 1, 0, 0]), (go(1, 999), [0, 0, 0, 0]), (who(), [0, 0, 0, 0]))

    def test_from_where_it_was_put(self):
        self.check(CROSSING, (stand(1, 1, 0), [0, 0, 0, 0]), (go(4, 500), [1, 0, 1, 0]), (stand(1, 0, 1), [0, 0, 1, 0]),
                   (go(4, 500), [0, 0, 0, 1]))

    def test_locked_an_act_does_not_turn(self):
        self.check(CROSSING + [stand(0, 0, 1)], (go(2, 0), [0, 1, 0, 1]), (go(1, 0), [0, 0, 0, 1]),
                   (go(1, 0), [0, 1, 0, 1]))

    def test_an_act_that_locks(self):
        self.check([begin(2, 2), act(0, 0, 0, 1, 0), lock(0, 0, 1)], (go(1, 0), [0, 0, 0, 1]), (lock(0, 0, 0), [1]),
                   (go(1, 0), [0, 0, 0, 1]))

    def test_an_act_that_turns_and_locks(self):
        self.check([begin(2, 3), act(0, 0, 0, 0, 1, 0), turn(0, 0, 3), lock(0, 0, 1)],
                   (go(1, 0), [0, 0, 2, 1]), (turn(0, 0, 2), [3]), (go(1, 0), [0, 0, 2, 1]))

    def test_an_act_that_turns_one_into_oneself(self):
        self.check([begin(2, 2), act(0, 0, 0, 1, 0), turn(0, 0, 1)], (go(1, 0), [0, 0, 0, 0]),
                   (stand(0, 1, 0), [0, 0, 0, 0]),
                   (go(1, 0), [0, 0, 0, 0]))
        self.check([begin(2, 1), act(0, 0, 0, 1), turn(0, 0, 1)], (go(4, 0), [0, 1, 0, 0]))

    def test_turned_there_and_back(self):
        made = [begin(2, 2), act(0, 0, 0, 0, 1), turn(0, 0, 2), act(1, 0, 0, 1, 0), turn(1, 0, 1)]
        self.check(made, (go(3, 0), [0, 1, 1, 0]), (go(2, 0), [0, 0, 0, 0]), (go(1, 0), [0, 1, 1, 0]))

    def test_two_as_good_one_of_which_turns(self):
        alike = [begin(2, 2), act(0, 1, 1, 1, 0), act(0, 1, 1, 1, 0)]
        self.check(alike + [turn(0, 0, 2)], (go(1, 0), [0, 0, 1, 0]))
        self.check(alike + [turn(0, 1, 2)], (go(1, 0), [0, 0, 0, 0]))

    def test_what_is_told_ahead_is_done(self):
        for steps in (1, 2, 3, 4):
            for start in ((0, 0, 0), (0, 0, 1), (1, 0, 0), (1, 1, 0), (0, 1, 1)):
                number = 1 if start == (0, 0, 0) and steps > 1 or start == (1, 1, 0) else 0
                place = 1 - start[0]
                who_then = 1 if start == (0, 0, 0) and steps == 1 else start[1]
                self.check(CROSSING + [stand(*start)], (does(*start, steps), [number]),
                           (go(steps, 0), [number, place, who_then, start[2]]))


class LuckTest(AskCase):
    def leads(self, weights, luck, place):
        made = [begin(len(weights), 1), act(0, 0, *weights)]
        self.check(made, (go(1, luck), [0, place, 0, 0]), (who(), [0, place, 0, 0]))

    def test_just_at_the_edge(self):
        self.leads((1, 1), 0, 0)
        self.leads((1, 1), 499, 0)
        self.leads((1, 1), 500, 1)
        self.leads((1, 1), 999, 1)

    def test_an_edge_between_two_numbers(self):
        self.leads((1, 2), 333, 0)
        self.leads((1, 2), 334, 1)
        self.leads((2, 1), 666, 0)
        self.leads((2, 1), 667, 1)
        self.leads((9, 9, 9, 8), 257, 0)
        self.leads((9, 9, 9, 8), 258, 1)
        self.leads((9, 9, 9, 8), 771, 2)
        self.leads((9, 9, 9, 8), 772, 3)

    def test_a_place_of_weight_0_is_passed_over(self):
        self.leads((0, 1), 0, 1)
        self.leads((1, 0), 999, 0)
        self.leads((1, 0, 1), 499, 0)
        self.leads((1, 0, 1), 500, 2)
        self.leads((0, 0, 0, 9), 0, 3)
        self.leads((0, 3, 1, 0), 749, 1)
        self.leads((0, 3, 1, 0), 750, 2)
        self.leads((0, 3, 1, 0), 999, 2)

    def test_four_places_as_likely(self):
        for luck, place in ((249, 0), (250, 1), (499, 1), (500, 2), (749, 2), (750, 3)):
            self.leads((2, 2, 2, 2), luck, place)


class GoRefusalsTest(AskCase):
    here = [begin(2, 1), act(0, 1, 1, 0)]

    def test_steps_at_their_edges(self):
        self.check(self.here, (go(0, 0), [-22]), (go(1, 0), [0, 0, 0, 0]), (go(4, 0), [0, 0, 0, 0]), (go(5, 0), [-22]),
                   (go(LARGEST, 0), [-22]))

    def test_luck_at_its_edges(self):
        self.check(self.here, (go(1, 0), [0, 0, 0, 0]), (go(1, 999), [0, 0, 0, 0]), (go(1, 1000), [-22]),
                   (go(1, LARGEST), [-22]))

    def test_no_act_there(self):
        self.check(self.here + [stand(1, 0, 1)], (go(1, 0), [-33]), (go(4, 999), [-33]), (who(), [0, 1, 0, 1]))
        self.check([begin(2, 1), act(0, 1, 0, 1)], (go(2, 0), [0, 1, 0, 0]), (go(1, 0), [-33]), (who(), [0, 1, 0, 0]))

    def test_the_seventeenth_entry(self):
        self.check(self.here + [go(1, 0)] * 15, (go(1, 0), [0, 0, 0, 0]), (go(1, 0), [-28]), (go(4, 999), [-28]),
                   (who(), [0, 0, 0, 0]), (begin(2, 1), [0]), (act(0, 1, 0, 1), [0]), (go(1, 0), [0, 1, 0, 0]))

    def test_a_refused_one_is_no_entry(self):
        wrong = [go(0, 0), go(1, 1000), stand(1, 0, 0), go(1, 0), go(1, 0), go(1, 0), stand(0, 0, 0)]
        self.check(self.here + [go(1, 0)] * 10 + wrong + [go(1, 0)] * 5, (go(1, 0), [0, 0, 0, 0]), (go(1, 0), [-28]))

    def test_what_was_done_stays_when_acts_are_taken_out_or_it_is_put_elsewhere(self):
        self.check(self.here + [go(1, 0)] * 16, (unact(0, 0), [0]), (stand(0, 0, 1), [0, 0, 0, 0]),
                   (act(0, 1, 1, 0), [0]), (go(1, 0), [-28]))

    def test_which_refusal_stands_first(self):
        self.check(self.here + [go(1, 0)] * 16, (go(0, 0), [-22]), (go(1, 1000), [-22]), (stand(1, 0, 0), [0, 0, 0, 0]),
                   (go(1, 0), [-28]), (go(5, 0), [-22]))
        self.check(self.here + [stand(1, 0, 0)], (go(0, 0), [-22]), (go(5, 0), [-22]), (go(1, 1000), [-22]),
                   (go(1, 0), [-33]))

    def test_a_refusal_changes_nothing(self):
        self.check([begin(2, 2), act(0, 1, 1, 0, 1), turn(0, 0, 2)], (go(0, 0), [-22]), (go(1, 1000), [-22]),
                   (who(), [0, 0, 0, 0]), (go(1, 999), [0, 1, 1, 0]))
