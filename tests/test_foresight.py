from asking import LARGEST, AskCase, act, addtwins, begin, cost, does, lights, lock, stand, turn, unact, who
from houses import CROSSING


class DoesTest(AskCase):
    def test_the_best_by_its_own_lights(self):
        self.check(CROSSING, (does(1, 0, 0, 1), [0]), (does(1, 1, 0, 1), [1]), (does(1, 0, 1, 1), [0]),
                   (does(1, 1, 1, 1), [1]), (does(0, 0, 0, 1), [0]))

    def test_it_knows_that_later_selves_go_by_theirs(self):
        # With 2 steps left act 0 brings 1, for as self 1 it would do nothing for self 0; act 1 brings 0 and 4.
        self.check(CROSSING, (does(0, 0, 0, 2), [1]), (does(0, 0, 0, 3), [1]), (does(0, 0, 0, 4), [1]))

    def test_locked_it_does_not_fear_an_act_that_turns(self):
        self.check(CROSSING, (does(0, 0, 1, 2), [0]), (does(0, 0, 1, 3), [0]), (does(0, 0, 1, 4), [0]))

    def test_a_self_that_would_be_turned_back(self):
        # At place 1 act 0 pays self 1 just 1 and makes it self 0, who does nothing for it at place 0.
        made = [begin(2, 2), act(1, 0, 1, 1, 0), act(1, 0, 0, 1, 0), turn(1, 0, 1), act(0, 1, 0, 1, 0),
                act(0, 0, 3, 1, 0)]
        self.check(made, (does(1, 1, 0, 1), [0]), (does(1, 1, 0, 2), [1]), (lights(1, 1, 0, 2), [2, 0, 1, 3, 1]),
                   (does(1, 1, 1, 2), [0]), (lights(1, 1, 1, 2), [2, 0, 1, 4, 1]))

    def test_a_self_that_gladly_turns_as_it_is_turned_back(self):
        # As self 1 it does act 0 at place 1 and is self 0 again: 5, 2 and 5 by self 0's lights.
        made = [begin(2, 2), act(0, 5, 0, 0, 1), act(0, 1, 0, 0, 1), turn(0, 0, 2),
                act(1, 2, 1, 1, 0), act(1, 0, 0, 1, 0), turn(1, 0, 1)]
        self.check(made, (does(1, 1, 0, 2), [0]), (does(0, 0, 0, 3), [0]), (lights(0, 0, 0, 3), [2, 12, 1, 1, 1]))

    def test_the_first_of_like_ones(self):
        alike = [begin(2, 2), act(0, 1, 1, 0, 1), act(0, 2, 2, 0, 1), act(0, 2, 2, 0, 1)]
        self.check(alike, (does(0, 0, 0, 1), [1]), (turn(0, 1, 2), [0]), (does(0, 0, 0, 4), [1]),
                   (turn(0, 1, 0), [2]), (turn(0, 2, 2), [0]), (does(0, 0, 0, 4), [1]), (unact(0, 1), [2]),
                   (does(0, 0, 0, 4), [1]))

    def test_like_ones_by_fractions_written_otherwise(self):
        thirds = [begin(2, 1), act(1, 5, 1, 0)]
        self.check(thirds + [act(0, 0, 2, 4), act(0, 0, 1, 2)], (does(0, 0, 0, 2), [0]), (does(0, 0, 0, 4), [0]))
        self.check(thirds + [act(0, 0, 1, 2), act(0, 0, 2, 4)], (does(0, 0, 0, 2), [0]), (does(0, 0, 0, 4), [0]))

    def test_a_fraction_that_is_larger_by_little(self):
        # 8 of 17 ways to place 1 are less than 9 of 18.
        self.check([begin(2, 1), act(1, 9, 1, 0), act(0, 0, 9, 8), act(0, 0, 9, 9)], (does(0, 0, 0, 2), [1]))
        self.check([begin(2, 1), act(1, -9, 1, 0), act(0, 0, 9, 9), act(0, 0, 9, 8)], (does(0, 0, 0, 2), [1]))

    def test_of_pays_below_0_the_largest(self):
        self.check([begin(2, 1), act(0, -9, 0, 1), act(0, -2, 0, 1), act(0, -3, 0, 1)], (does(0, 0, 0, 1), [1]))

    def test_one_self_that_turns_into_itself(self):
        self.check([begin(2, 1), act(0, 2, 1, 0), turn(0, 0, 1), act(0, 1, 1, 0)],
                   (does(0, 0, 0, 4), [0]), (lights(0, 0, 0, 4), [1, 8, 1]))

    def test_no_acts_there(self):
        self.check(CROSSING + [unact(0, 0), unact(0, 0)], (does(0, 0, 0, 1), [-33]), (does(0, 1, 1, 4), [-33]),
                   (does(1, 0, 0, 1), [0]))

    def test_no_such_place_or_self(self):
        self.check(CROSSING, (does(2, 0, 0, 1), [-2]), (does(LARGEST, 0, 0, 1), [-2]), (does(0, 2, 0, 1), [-2]),
                   (does(0, LARGEST, 0, 1), [-2]))

    def test_locked_is_above_1(self):
        self.check(CROSSING, (does(0, 0, 1, 1), [0]), (does(0, 0, 2, 1), [-22]), (does(0, 0, LARGEST, 1), [-22]))

    def test_steps_at_their_edges(self):
        self.check(CROSSING, (does(0, 0, 0, 0), [-22]), (does(0, 0, 0, 1), [0]), (does(0, 0, 0, 4), [1]),
                   (does(0, 0, 0, 5), [-22]), (does(0, 0, 0, LARGEST), [-22]))

    def test_which_refusal_stands_first(self):
        self.check([begin(2, 1)], (does(2, 0, 2, 0), [-2]), (does(0, 1, 0, 5), [-2]), (does(0, 0, 2, 1), [-22]),
                   (does(0, 0, 0, 0), [-22]), (does(0, 0, 0, 1), [-33]))

    def test_not_by_where_the_helper_stands(self):
        self.check(CROSSING + [stand(1, 1, 1)], (does(0, 0, 0, 2), [1]), (lights(0, 0, 0, 2), [2, 4, 1, 0, 1]),
                   (cost(0, 1, 0, 0, 2), [0, 3, 1]), (who(), [0, 1, 1, 1]))


class LightsTest(AskCase):
    def test_the_crossing(self):
        self.check(CROSSING, (lights(0, 0, 0, 1), [2, 1, 1, 0, 1]), (lights(0, 1, 0, 1), [2, 1, 1, 0, 1]),
                   (lights(0, 0, 0, 2), [2, 4, 1, 0, 1]), (lights(0, 0, 1, 2), [2, 5, 1, 0, 1]),
                   (lights(0, 1, 0, 2), [2, 1, 1, 4, 1]), (lights(1, 1, 0, 2), [2, 1, 1, 4, 1]),
                   (lights(0, 0, 0, 3), [2, 5, 1, 0, 1]), (lights(0, 0, 1, 3), [2, 6, 1, 0, 1]),
                   (lights(1, 0, 0, 3), [2, 8, 1, 0, 1]), (lights(1, 0, 1, 3), [2, 9, 1, 0, 1]),
                   (lights(1, 1, 0, 3), [2, 1, 1, 8, 1]), (lights(0, 0, 0, 4), [2, 8, 1, 0, 1]),
                   (lights(0, 0, 1, 4), [2, 10, 1, 0, 1]), (lights(0, 1, 0, 4), [2, 2, 1, 8, 1]))

    def test_selves_with_opposite_pays(self):
        made = [begin(2, 2), act(0, 5, -5, 0, 1), act(0, -5, 5, 0, 1)]
        self.check(made, (lights(0, 0, 0, 1), [2, 5, 1, -5, 1]), (lights(0, 1, 0, 1), [2, -5, 1, 5, 1]),
                   (cost(0, 1, 0, 0, 1), [0, 10, 1]), (cost(1, 0, 0, 1, 4), [0, 10, 1]))

    def test_opposite_pays_and_an_act_that_turns(self):
        # As self 1 it would cost self 0 just 3 at place 1: better not to turn for 2, better to turn for 7.
        made = [begin(2, 2), act(0, 0, 0, 0, 1), act(1, 3, -3, 1, 0), act(1, -3, 3, 1, 0)]
        self.check(made + [act(0, 2, -2, 0, 1), turn(0, 1, 2)], (does(0, 0, 0, 2), [0]),
                   (lights(0, 0, 0, 2), [2, 3, 1, -3, 1]), (lights(0, 0, 1, 2), [2, 5, 1, -5, 1]))
        self.check(made + [act(0, 7, -7, 0, 1), turn(0, 1, 2)], (does(0, 0, 0, 2), [1]),
                   (lights(0, 0, 0, 2), [2, 4, 1, -4, 1]))

    def test_halves(self):
        self.check([begin(2, 1), act(0, 3, 1, 1)], (lights(0, 0, 0, 0), [1, 0, 1]), (lights(0, 0, 0, 1), [1, 3, 1]),
                   (lights(0, 0, 0, 2), [1, 9, 2]), (lights(0, 0, 0, 3), [1, 21, 4]), (lights(0, 0, 0, 4), [1, 45, 8]))

    def test_below_0(self):
        self.check([begin(2, 1), act(0, -1, 1, 2)], (lights(0, 0, 0, 1), [1, -1, 1]), (lights(0, 0, 0, 2), [1, -4, 3]),
                   (lights(0, 0, 0, 3), [1, -13, 9]), (lights(0, 0, 0, 4), [1, -40, 27]))

    def test_lowest_terms(self):
        self.check([begin(2, 1), act(0, 2, 2, 4)], (lights(0, 0, 0, 2), [1, 8, 3]), (lights(0, 0, 0, 3), [1, 26, 9]))
        self.check([begin(2, 1), act(0, -6, 3, 6)], (lights(0, 0, 0, 2), [1, -8, 1]))

    def test_0_is_0_1(self):
        made = [begin(2, 1), act(0, 1, 0, 7), act(1, -1, 7, 0)]
        self.check(made, (lights(0, 0, 0, 1), [1, 1, 1]), (lights(0, 0, 0, 2), [1, 0, 1]),
                   (lights(1, 0, 0, 4), [1, 0, 1]))
        # 1, less the half of 2.
        self.check([begin(2, 1), act(0, 1, 1, 1), act(1, -3, 0, 1)], (lights(0, 0, 0, 2), [1, 0, 1]))

    def test_lower_numbers_of_several_places(self):
        # The half of 3 by 2, and the half of 5 by 3.
        made = [begin(3, 1), act(0, 0, 0, 1, 1), act(1, 1, 1, 1, 0), act(2, 1, 1, 0, 2)]
        self.check(made, (lights(1, 0, 0, 2), [1, 3, 2]), (lights(2, 0, 0, 2), [1, 5, 3]),
                   (lights(0, 0, 0, 3), [1, 19, 12]))

    def test_a_way_that_ends_where_there_is_no_act(self):
        made = [begin(3, 1), act(0, 1, 0, 1, 2), act(1, 2, 1, 0, 0)]
        self.check(made, (lights(2, 0, 0, 4), [1, 0, 1]), (lights(0, 0, 0, 2), [1, 5, 3]),
                   (lights(0, 0, 0, 3), [1, 2, 1]), (lights(0, 0, 0, 4), [1, 20, 9]))

    def test_an_act_that_turns_and_locks(self):
        # Behind act 0 it is self 1 and locked, and so stays self 1 behind what turns at place 1.
        made = [begin(2, 2), act(0, 1, 0, 0, 1), turn(0, 0, 2), lock(0, 0, 1), act(1, 0, 1, 0, 1), turn(1, 0, 1),
                act(1, 1, 0, 0, 1)]
        self.check(made, (lights(0, 0, 0, 3), [2, 1, 1, 2, 1]), (lights(0, 0, 0, 4), [2, 1, 1, 3, 1]),
                   (lock(0, 0, 0), [1]), (lights(0, 0, 0, 3), [2, 2, 1, 1, 1]), (lights(0, 0, 0, 4), [2, 3, 1, 1, 1]))

    def test_a_lock_is_kept_behind_acts_that_do_not_lock(self):
        # At place 1 nothing turns; at place 2 act 0 does. Locked at place 0 it stays self 0 to the end.
        made = [begin(3, 2), act(0, 0, 0, 0, 1, 0), lock(0, 0, 1), act(1, 0, 0, 0, 0, 1), act(2, 2, 0, 0, 0, 1),
                turn(2, 0, 2), act(2, 0, 3, 0, 0, 1)]
        self.check(made, (lights(0, 0, 0, 4), [2, 4, 1, 0, 1]), (lock(0, 0, 0), [1]),
                   (lights(0, 0, 0, 4), [2, 2, 1, 3, 1]))

    def test_three_selves(self):
        made = [begin(2, 3), act(0, 1, 2, -3, 1, 0), act(0, 0, 3, 1, 0, 1), act(0, -1, 0, 9, 1, 0)]
        self.check(made, (lights(0, 0, 0, 1), [3, 1, 1, 2, 1, -3, 1]), (lights(0, 1, 0, 1), [3, 0, 1, 3, 1, 1, 1]),
                   (lights(0, 2, 0, 1), [3, -1, 1, 0, 1, 9, 1]), (lights(0, 1, 0, 2), [3, 1, 1, 5, 1, -2, 1]))

    def test_no_steps_left(self):
        self.check(CROSSING, (lights(0, 0, 0, 0), [2, 0, 1, 0, 1]), (lights(1, 1, 1, 0), [2, 0, 1, 0, 1]))

    def test_no_acts(self):
        self.check([begin(4, 3)], (lights(3, 2, 1, 4), [3, 0, 1, 0, 1, 0, 1]))

    def test_refusals(self):
        self.check(CROSSING, (lights(2, 0, 0, 0), [-2]), (lights(LARGEST, 0, 0, 0), [-2]), (lights(0, 2, 0, 0), [-2]),
                   (lights(0, LARGEST, 0, 0), [-2]), (lights(0, 0, 2, 0), [-22]), (lights(0, 0, LARGEST, 0), [-22]),
                   (lights(0, 0, 0, 5), [-22]), (lights(0, 0, 0, LARGEST), [-22]),
                   (lights(1, 1, 1, 4), [2, 2, 1, 8, 1]))

    def test_which_refusal_stands_first(self):
        self.check(CROSSING, (lights(2, 0, 2, 5), [-2]), (lights(0, 2, 2, 0), [-2]), (lights(0, 2, 0, 5), [-2]))


class CostTest(AskCase):
    def test_the_crossing(self):
        self.check(CROSSING, (cost(0, 1, 0, 0, 2), [0, 3, 1]), (cost(0, 1, 0, 1, 2), [0, 4, 1]),
                   (cost(1, 0, 0, 0, 2), [0, 4, 1]), (cost(0, 1, 1, 0, 3), [0, 7, 1]), (cost(0, 1, 1, 1, 3), [0, 8, 1]),
                   (cost(1, 0, 1, 0, 3), [0, 8, 1]), (cost(0, 1, 0, 0, 1), [0, 0, 1]))

    def test_fractions(self):
        made = [begin(2, 2), act(0, 1, 0, 1, 1), act(0, 0, 1, 1, 1)]
        self.check(made, (cost(0, 1, 0, 0, 2), [0, 3, 2]), (cost(0, 1, 0, 0, 3), [0, 7, 4]),
                   (cost(1, 0, 0, 1, 4), [0, 15, 8]))

    def test_lowest_terms_of_unlike_fractions(self):
        # By self 0's lights, with 3 steps left: at place 0 it is 11 by 6 as self 0, and -7 by 6 as self 1;
        # at place 1, from where a sixth of all ways leads to place 0, it is 7 by 18, and -11 by 36.
        made = [begin(2, 2), act(0, 1, 0, 1, 1), act(0, -1, 1, 0, 1), act(1, 0, 0, 1, 5)]
        self.check(made, (lights(0, 0, 0, 3), [2, 11, 6, 0, 1]), (lights(0, 1, 0, 3), [2, -7, 6, 7, 6]),
                   (lights(1, 0, 0, 3), [2, 7, 18, 0, 1]), (lights(1, 1, 0, 3), [2, -11, 36, 11, 36]),
                   (cost(0, 1, 0, 0, 3), [0, 3, 1]), (cost(0, 1, 1, 0, 3), [0, 25, 36]))

    def test_to_be_oneself_costs_nothing(self):
        self.check(CROSSING, (cost(0, 0, 0, 0, 4), [0, 0, 1]), (cost(1, 1, 1, 1, 3), [0, 0, 1]))
        self.check([begin(2, 1), act(0, 7, 1, 2)], (cost(0, 0, 0, 0, 4), [0, 0, 1]))

    def test_no_steps_left_or_no_acts(self):
        self.check(CROSSING, (cost(0, 1, 1, 0, 0), [0, 0, 1]), (cost(1, 0, 1, 1, 0), [0, 0, 1]))
        self.check([begin(4, 3)], (cost(2, 1, 3, 1, 4), [0, 0, 1]))

    def test_both_by_the_lights_of_the_first(self):
        made = [begin(2, 3), act(0, 7, 0, 1, 0, 1), act(0, 2, 5, 0, 0, 1)]
        self.check(made, (cost(0, 1, 0, 0, 1), [0, 5, 1]), (cost(2, 1, 0, 0, 1), [0, 1, 1]),
                   (cost(1, 2, 0, 0, 1), [0, 5, 1]), (cost(0, 2, 0, 0, 1), [0, 0, 1]))

    def test_with_twins_each_gets_its_ideal(self):
        # Act 1 pays 2 but turns. Its twin brings self 0 that 2 and the 4 of place 1.
        made = [begin(2, 2), act(0, 0, 0, 0, 1), act(0, 2, 0, 0, 1), turn(0, 1, 2), act(1, 4, 0, 1, 0),
                act(1, 0, 4, 1, 0)]
        self.check(made, (lights(0, 0, 0, 2), [2, 4, 1, 0, 1]), (cost(0, 1, 0, 0, 2), [0, 4, 1]), (addtwins(0), [1]),
                   (does(0, 0, 0, 2), [2]), (lights(0, 0, 0, 2), [2, 6, 1, 0, 1]),
                   (lights(0, 0, 1, 2), [2, 6, 1, 0, 1]),
                   (cost(0, 1, 0, 0, 2), [0, 6, 1]))

    def test_refusals(self):
        self.check(CROSSING, (cost(2, 0, 0, 0, 0), [-2]), (cost(LARGEST, 0, 0, 0, 0), [-2]),
                   (cost(0, 2, 0, 0, 0), [-2]),
                   (cost(0, LARGEST, 0, 0, 0), [-2]), (cost(0, 0, 2, 0, 0), [-2]), (cost(0, 0, LARGEST, 0, 0), [-2]),
                   (cost(0, 1, 0, 2, 0), [-22]), (cost(0, 1, 0, LARGEST, 0), [-22]), (cost(0, 1, 0, 0, 5), [-22]),
                   (cost(0, 1, 0, 0, LARGEST), [-22]), (cost(1, 1, 1, 1, 4), [0, 0, 1]))

    def test_which_refusal_stands_first(self):
        self.check(CROSSING, (cost(2, 0, 0, 2, 5), [-2]), (cost(0, 2, 0, 2, 0), [-2]), (cost(0, 0, 2, 0, 5), [-2]))

    def test_places_and_selves_are_not_mixed_up(self):
        self.check([begin(4, 1)], (cost(0, 0, 3, 0, 0), [0, 0, 1]), (cost(0, 3, 0, 0, 0), [-2]),
                   (lights(3, 0, 0, 0), [1, 0, 1]),
                   (lights(0, 3, 0, 0), [-2]), (does(3, 0, 0, 1), [-33]), (does(0, 3, 0, 1), [-2]))
        self.check([begin(2, 3)], (cost(2, 2, 1, 0, 0), [0, 0, 1]), (cost(0, 0, 2, 0, 0), [-2]),
                   (lights(2, 0, 0, 0), [-2]),
                   (does(2, 0, 0, 1), [-2]))
