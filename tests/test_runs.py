from asking import (LARGEST, AskCase, act, ask, begin, count, does, entry, go, ifgo, lights, lock, paid, run, stand,
                    turn, unact, who)
from houses import CROSSING, ENDING, THERE_AND_BACK

STAYING = [begin(2, 1), act(0, 1, 1, 0)]


class IfGoTest(AskCase):
    def test_what_go_would_answer(self):
        self.check(CROSSING, (ifgo(1, 0), [0, 1, 1, 0]), (ifgo(2, 0), [1, 1, 0, 0]), (ifgo(4, 999), [1, 1, 0, 0]))

    def test_nothing_is_done(self):
        self.check(CROSSING, (ifgo(1, 0), [0, 1, 1, 0]), (who(), [0, 0, 0, 0]), (count(), [4, 2, 2, 0, 0]),
                   (entry(0), [-2]), (paid(), [0, 0, 0]), (ifgo(1, 0), [0, 1, 1, 0]))

    def test_go_at_once_behind_it_answers_the_same(self):
        houses = (CROSSING, THERE_AND_BACK, [begin(2, 2), act(0, 0, 0, 1, 2), turn(0, 0, 2), lock(0, 0, 1)])
        for made in houses:
            for steps in (1, 2, 3, 4):
                for luck in (0, 333, 334, 999):
                    for locked in (0, 1):
                        told = ask(*made, stand(0, 0, locked), ifgo(steps, luck), go(steps, luck))
                        self.assertEqual(told[-2], told[-1])
                        self.assertEqual(len(told[-1]), 4)

    def test_from_where_it_stands(self):
        self.check(CROSSING + [stand(1, 1, 0)], (ifgo(3, 0), [1, 0, 1, 0]), (stand(0, 0, 1), [0, 1, 1, 0]),
                   (ifgo(1, 0), [0, 1, 0, 1]))

    def test_luck_just_at_the_edge(self):
        made = [begin(3, 1), act(0, 0, 1, 0, 2)]
        self.check(made, (ifgo(1, 333), [0, 0, 0, 0]), (ifgo(1, 334), [0, 2, 0, 0]), (ifgo(1, 999), [0, 2, 0, 0]))
        made = [begin(2, 1), act(0, 0, 1, 1)]
        self.check(made, (ifgo(1, 499), [0, 0, 0, 0]), (ifgo(1, 500), [0, 1, 0, 0]))

    def test_locked_by_the_act_that_turns(self):
        self.check([begin(2, 3), act(0, 0, 0, 0, 1, 0), turn(0, 0, 3), lock(0, 0, 1)], (ifgo(1, 0), [0, 0, 2, 1]))

    def test_an_act_that_turns_one_into_oneself(self):
        self.check([begin(2, 2), act(0, 0, 0, 0, 1), turn(0, 0, 1)], (ifgo(2, 0), [0, 1, 0, 0]))

    def test_steps_and_luck_at_their_edges(self):
        self.check(STAYING, (ifgo(0, 0), [-22]), (ifgo(1, 0), [0, 0, 0, 0]), (ifgo(4, 999), [0, 0, 0, 0]),
                   (ifgo(5, 0), [-22]), (ifgo(LARGEST, 0), [-22]), (ifgo(1, 1000), [-22]), (ifgo(1, LARGEST), [-22]))

    def test_no_act_there(self):
        self.check(STAYING + [stand(1, 0, 1)], (ifgo(1, 0), [-33]), (ifgo(4, 999), [-33]), (ifgo(0, 0), [-22]),
                   (ifgo(5, 0), [-22]), (ifgo(1, 1000), [-22]), (who(), [0, 1, 0, 1]))

    def test_sixteen_entries_do_not_hinder_it(self):
        self.check(STAYING + [go(1, 0)] * 16, (go(1, 0), [-28]), (ifgo(1, 0), [0, 0, 0, 0]), (ifgo(5, 0), [-22]),
                   (stand(1, 0, 0), [0, 0, 0, 0]), (ifgo(1, 0), [-33]), (go(1, 0), [-28]), (count(), [4, 2, 1, 0, 16]))


class RunTest(AskCase):
    def test_with_one_step_less_each_time(self):
        self.check(CROSSING, (run(1, 0), [1, 1, 1, 0]), (who(), [0, 1, 1, 0]))
        self.check(CROSSING, (run(2, 0, 0), [2, 0, 0, 0]), (who(), [0, 0, 0, 0]))
        self.check(CROSSING, (run(4, 0, 999, 500, 0), [4, 0, 0, 0]))

    def test_a_self_that_turns_at_the_last_step(self):
        self.check(CROSSING, (run(3, 0, 0, 0), [3, 1, 1, 0]), (entry(0), [1, 3, 0, 0, 0, 1, 0, 0]),
                   (entry(1), [0, 2, 1, 0, 0, 0, 0, 0]), (entry(2), [0, 1, 0, 0, 0, 1, 1, 0]), (entry(3), [-2]),
                   (who(), [0, 1, 1, 0]))

    def test_it_goes_on_from_where_it_stands(self):
        self.check(CROSSING + [stand(1, 1, 1)], (run(2, 0, 0), [2, 1, 1, 1]), (run(1, 0), [1, 0, 1, 1]),
                   (count(), [4, 2, 2, 0, 3]))

    def test_each_number_of_the_row_is_one_step_s_luck(self):
        # From place 0 luck 499 stays, 500 goes to place 1; from there all goes on to place 2, and stays.
        made = [begin(3, 1), act(0, 0, 1, 1, 0), act(1, 0, 0, 0, 1), act(2, 0, 0, 0, 1)]
        self.check(made, (run(4, 499, 499, 500, 0), [4, 2, 0, 0]), (entry(0), [0, 4, 0, 0, 0, 0, 0, 0]),
                   (entry(1), [0, 3, 0, 0, 0, 0, 0, 0]), (entry(2), [0, 2, 0, 0, 0, 1, 0, 0]),
                   (entry(3), [0, 1, 1, 0, 0, 2, 0, 0]))
        self.check(made, (run(3, 499, 499, 500), [3, 1, 0, 0]))
        self.check(made, (run(3, 500, 499, 499), [3, 2, 0, 0]))
        self.check(made, (run(4, 0, 499, 0, 499), [4, 0, 0, 0]))

    def test_it_ends_in_the_midst(self):
        self.check(ENDING, (run(4, 0, 0, 999, 0), [3, 2, 0, 0]), (who(), [0, 2, 0, 0]),
                   (entry(0), [0, 4, 0, 0, 0, 1, 0, 0]), (entry(1), [0, 3, 1, 0, 0, 0, 0, 0]),
                   (entry(2), [0, 2, 0, 0, 0, 2, 0, 0]), (entry(3), [-2]), (paid(), [3, 4]))
        self.check(ENDING, (run(2, 999, 0), [1, 2, 0, 0]), (count(), [4, 3, 1, 0, 1]))
        self.check(ENDING, (run(4, 500, 0, 0, 0), [1, 2, 0, 0]))

    def test_at_a_place_without_acts(self):
        for steps in (1, 2, 3, 4):
            self.check(ENDING + [stand(2, 0, 1)], (run(steps, *[0] * steps), [0, 2, 0, 1]), (count(), [4, 3, 1, 0, 0]),
                       (who(), [0, 2, 0, 1]), (entry(0), [-2]))

    def test_turned_there_and_back(self):
        self.check(THERE_AND_BACK, (run(2, 0, 0), [2, 0, 0, 0]), (run(3, 0, 0, 0), [3, 1, 1, 0]))
        self.check(THERE_AND_BACK + [stand(0, 0, 1)], (run(3, 0, 0, 0), [3, 1, 0, 1]))

    def test_locked_by_the_act_that_turns(self):
        # Self 1 and locked behind the first step, so the second one doesn't make it self 0 again.
        self.check(THERE_AND_BACK + [lock(0, 0, 1)], (run(2, 0, 0), [2, 0, 1, 1]), (run(2, 0, 0), [2, 0, 1, 1]))

    def test_an_act_that_turns_one_into_oneself(self):
        self.check([begin(2, 2), act(0, 0, 0, 1, 0), turn(0, 0, 1)], (run(3, 0, 0, 0), [3, 0, 0, 0]))

    def test_what_does_tells_is_done(self):
        # Each step does what was told ahead for how it then stood and how many steps were left.
        for start in ((0, 0, 0), (0, 1, 0), (1, 0, 0), (1, 1, 1), (0, 0, 1)):
            told = ask(*CROSSING, stand(*start), run(4, 0, 0, 0, 0), *[entry(i) for i in range(4)])[-4:]
            for done in told:
                self.assertEqual(ask(*CROSSING, does(*done[2:5], done[1]))[-1], done[:1])
                self.assertEqual(ask(*CROSSING, stand(*done[2:5]), go(done[1], 0))[-1], done[:1] + done[5:])

    def test_a_run_is_what_going_step_by_step_is(self):
        row = (700, 20, 500, 999)
        made = [begin(3, 2), act(0, 1, 0, 1, 1, 1), act(0, 0, 2, 0, 1, 2), turn(0, 0, 2), act(1, -1, 3, 2, 1, 0),
                turn(1, 0, 1), act(2, 0, 1, 1, 0, 0), lock(2, 0, 1)]
        after = [who(), paid(), entry(0), entry(1), entry(2), entry(3), count()]
        at_once = ask(*made, run(4, *row), *after)[-7:]
        by_steps = ask(*made, *[go(4 - step, row[step]) for step in range(4)], *after)[-7:]
        self.assertEqual(at_once, by_steps)
        self.assertEqual(at_once[-1], [4, 3, 2, 0, 4])


class RunRefusalsTest(AskCase):
    def untouched(self, wrong):
        self.check(STAYING + [go(1, 0)], (wrong, [-22]), (count(), [4, 2, 1, 0, 1]), (who(), [0, 0, 0, 0]))

    def test_steps_at_their_edges(self):
        for steps in (0, 5, 6, LARGEST):
            for length in range(7):
                self.untouched(run(steps, *[0] * length))
        self.check(STAYING, (run(1, 0), [1, 0, 0, 0]), (run(4, 0, 0, 0, 0), [4, 0, 0, 0]))

    def test_rows_of_the_wrong_length(self):
        for steps in (1, 2, 3, 4):
            for length in range(7):
                if length == steps:
                    self.check(STAYING, (run(steps, *[0] * length), [steps, 0, 0, 0]), (count(), [4, 2, 1, 0, steps]))
                else:
                    self.untouched(run(steps, *[0] * length))

    def test_each_luck_at_its_edges(self):
        for steps in (1, 2, 3, 4):
            self.check(STAYING, (run(steps, *[999] * steps), [steps, 0, 0, 0]))
            for at in range(steps):
                for wrong in (1000, LARGEST):
                    row = [0] * steps
                    row[at] = wrong
                    self.untouched(run(steps, *row))

    def test_a_wrong_luck_for_a_step_that_would_not_be_done(self):
        self.check(ENDING, (run(2, 999, 1000), [-22]), (who(), [0, 0, 0, 0]), (stand(2, 0, 0), [0, 0, 0, 0]),
                   (run(1, 1000), [-22]), (run(1, 999), [0, 2, 0, 0]))

    def fill(self, entries):
        return STAYING + [go(1, 0)] * entries

    def test_the_seventeenth_entry(self):
        # By how many entries there are, the most steps for which there's room.
        for entries, most in ((11, 4), (12, 4), (13, 3), (14, 2), (15, 1), (16, 0)):
            for steps in (1, 2, 3, 4):
                if steps <= most:
                    self.check(self.fill(entries), (run(steps, *[0] * steps), [steps, 0, 0, 0]),
                               (count(), [4, 2, 1, 0, entries + steps]))
                else:
                    self.check(self.fill(entries), (run(steps, *[0] * steps), [-28]), (who(), [0, 0, 0, 0]),
                               (count(), [4, 2, 1, 0, entries]), (paid(), [entries, entries]))

    def test_filled_by_runs(self):
        self.check(STAYING + [run(4, 0, 0, 0, 0)] * 4, (count(), [4, 2, 1, 0, 16]), (run(1, 0), [-28]),
                   (go(1, 0), [-28]), (entry(15), [0, 1, 0, 0, 0, 0, 0, 0]), (entry(16), [-2]), (begin(2, 1), [0]),
                   (run(4, 0, 0, 0, 0), [0, 0, 0, 0]))

    def test_no_room_though_it_would_end_earlier(self):
        self.check(self.fill(13) + [stand(1, 0, 0)], (run(4, 0, 0, 0, 0), [-28]), (run(3, 0, 0, 0), [0, 1, 0, 0]))
        self.check(self.fill(16) + [stand(1, 0, 0)], (run(1, 0), [-28]), (who(), [0, 1, 0, 0]))
        ending = [begin(2, 1), act(0, 1, 0, 1)] + [go(1, 0), stand(0, 0, 0)] * 13
        self.check(ending, (run(4, 0, 0, 0, 0), [-28]), (who(), [0, 0, 0, 0]), (run(3, 0, 0, 0), [1, 1, 0, 0]),
                   (count(), [4, 2, 1, 0, 14]))

    def test_which_refusal_stands_first(self):
        self.check(self.fill(16), (run(0), [-22]), (run(5, 0, 0, 0, 0, 0), [-22]), (run(1), [-22]),
                   (run(1, 0, 0), [-22]),
                   (run(1, 1000), [-22]), (run(1, 999), [-28]))

    def test_what_was_done_counts_when_its_acts_are_taken_out(self):
        self.check(self.fill(14), (unact(0, 0), [0]), (lights(0, 0, 0, 1), [1, 0, 1]), (run(3, 0, 0, 0), [-28]),
                   (run(2, 0, 0), [0, 0, 0, 0]), (count(), [4, 2, 1, 0, 14]))
