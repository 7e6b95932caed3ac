import unittest

from tests.helper import act, ask, begins, chance, judge, last, likely, rule_numbers


class LikelyAnswers(unittest.TestCase):
    def told(self, many, wanted, *acts):
        return last(begins(many, wanted), *acts, likely())

    def test_at_the_beginning(self):
        self.assertEqual(ask(likely()), [[0]])

    def test_no_act(self):
        for many in (1, 2, 6):
            self.assertEqual(self.told(many, []), [0])
            self.assertEqual(self.told(many, [many - 1]), [0])

    def test_nothing_wanted(self):
        self.assertEqual(self.told(2, [], act(0, 1, 0, 1, 1, 1), act(1, 1, 0, 1)), [0])
        self.assertEqual(self.told(1, [], act(0, 1, 0, 1)), [0])

    def test_all_states_wanted(self):
        acts = [act(state, 1, 0, 1, 5, 1) for state in range(6)] * 2
        self.assertEqual(self.told(6, [0, 1, 2, 3, 4, 5], *acts), [0])

    def test_one_act(self):
        self.assertEqual(self.told(2, [1], act(0, 1, 1, 1)), [1, 0, 0])
        self.assertEqual(self.told(3, [1], act(0, 1, 1, 1, 2, 20)), [1, 0, 0])
        self.assertEqual(self.told(2, [1], act(0, 1, 0, 20, 1, 1)), [1, 0, 0])

    def test_the_likelier_act(self):
        worse, better = act(0, 1, 1, 1, 2, 1), act(0, 100, 1, 11, 2, 10)
        self.assertEqual(self.told(3, [1], worse, better), [1, 0, 1])
        self.assertEqual(self.told(3, [1], better, worse), [1, 0, 0])

    def test_the_lowest_of_several_that_are_as_good(self):
        acts = [act(0, 9, 1, 1, 2, 3), act(0, 9, 1, 2, 2, 4), act(0, 1, 1, 1, 2, 2), act(0, 5, 1, 3, 2, 6)]
        self.assertEqual(self.told(3, [1], *acts), [1, 0, 1])

    def test_an_act_that_only_leads_back_is_as_good_but_not_told(self):
        self.assertEqual(self.told(2, [1], act(0, 1, 0, 1), act(0, 1, 1, 1)), [1, 0, 1])
        self.assertEqual(self.told(3, [1], act(0, 1, 0, 1), act(0, 1, 1, 1, 2, 1)), [1, 0, 1])

    def test_acts_that_only_lead_round_are_as_good_but_not_told(self):
        ring = [act(0, 1, 1, 1), act(1, 1, 2, 1), act(2, 1, 0, 1)]
        acts = [*ring, act(1, 1, 3, 2, 4, 3)]
        self.assertEqual(self.told(5, [3], *acts), [3, 0, 0, 1, 3, 2, 2])

    def test_the_lowest_that_leads_nearer_not_the_lowest_of_all(self):
        acts = [act(0, 1, 1, 1), act(0, 1, 2, 1), act(0, 1, 2, 2), act(1, 1, 2, 1)]
        self.assertEqual(self.told(3, [2], *acts), [2, 0, 1, 1, 3])

    def test_nearer_may_be_come_to_with_little_chance(self):
        acts = [act(0, 1, 0, 20, 1, 20, 2, 1), act(0, 1, 2, 1), act(1, 1, 0, 1), act(1, 1, 2, 1)]
        self.assertEqual(self.told(3, [2], *acts), [2, 0, 0, 1, 3])

    def test_an_act_on_the_same_level_is_not_nearer(self):
        acts = [act(0, 1, 1, 1), act(1, 1, 0, 1), act(0, 1, 2, 1), act(1, 1, 2, 1)]
        self.assertEqual(self.told(3, [2], *acts), [2, 0, 2, 1, 3])

    def test_a_lower_level_need_not_be_all_that_it_leads_to(self):
        acts = [act(2, 1, 3, 1), act(1, 1, 0, 1, 2, 1), act(0, 1, 1, 1), act(0, 1, 0, 1)]
        self.assertEqual(self.told(4, [3], *acts), [3, 0, 2, 1, 1, 2, 0])

    def test_five_levels(self):
        acts = [act(state, 1, state, 19, state + 1, 1) for state in range(5)]
        self.assertEqual(self.told(6, [5], *acts), [5, 0, 0, 1, 1, 2, 2, 3, 3, 4, 4])
        self.assertEqual(self.told(6, [5], *acts[::-1]), [5, 0, 4, 1, 3, 2, 2, 3, 1, 4, 0])

    def test_levels_go_by_acts_that_are_as_good_alone(self):
        acts = [act(0, 1, 3, 1, 4, 1), act(0, 1, 1, 1), act(1, 1, 2, 9, 4, 1), act(2, 1, 3, 9, 4, 1),
                act(1, 1, 0, 1)]
        self.assertEqual(self.told(5, [3], *acts), [3, 0, 1, 1, 2, 2, 3])

    def test_a_long_way_round_is_as_good_but_a_step_is_nearer(self):
        back = [act(state, 1, state - 1, 1) for state in range(1, 5)]
        on = [act(state, 1, state + 1, 1) for state in range(5)]
        self.assertEqual(self.told(6, [5], *back, *on), [5, 0, 4, 1, 5, 2, 6, 3, 7, 4, 8])

    def test_the_last_of_twelve_acts(self):
        acts = [act(0, 1, 0, 1)] * 11
        self.assertEqual(self.told(2, [1], *acts, act(0, 1, 1, 1)), [1, 0, 11])

    def test_states_rise_in_whatever_order_the_acts_are(self):
        acts = [act(4, 1, 2, 1), act(0, 1, 2, 1), act(5, 1, 4, 1), act(1, 1, 5, 1), act(3, 1, 1, 1)]
        self.assertEqual(self.told(6, [2], *acts), [5, 0, 1, 1, 3, 3, 4, 4, 0, 5, 2])

    def test_nothing_of_states_with_the_best_chance_0(self):
        acts = [act(2, 1, 2, 1), act(2, 1, 3, 1), act(3, 1, 2, 1, 3, 1), act(0, 1, 1, 1, 2, 1), act(4, 1, 2, 1)]
        self.assertEqual(self.told(5, [1], *acts), [1, 0, 3])

    def test_nothing_of_wanted_states(self):
        acts = [act(1, 1, 1, 1), act(1, 1, 2, 1), act(2, 1, 1, 1), act(0, 1, 2, 1)]
        self.assertEqual(self.told(3, [1, 2], *acts), [1, 0, 3])

    def test_the_cost_does_not_count(self):
        self.assertEqual(self.told(2, [1], act(0, 100, 1, 1), act(0, 1, 1, 1)), [1, 0, 0])

    def test_trying_again_beats_a_likely_act(self):
        self.assertEqual(self.told(3, [1], act(0, 1, 1, 19, 2, 1), act(0, 1, 0, 20, 1, 1)), [1, 0, 1])

    def test_its_rule_has_the_best_chances(self):
        house = [begins(6, [4]), act(0, 1, 0, 1), act(0, 1, 1, 2, 3, 1), act(1, 1, 0, 1, 2, 1), act(2, 1, 1, 1),
                 act(2, 1, 0, 3, 4, 2, 5, 1), act(3, 1, 3, 1), act(3, 1, 2, 1, 5, 1)]
        rule = rule_numbers(last(*house, likely()))
        told = ask(*house, *[chance(state) for state in range(6)], *[judge(state, *rule) for state in range(6)])
        self.assertEqual([best[1:] for best in told[8:14]], [judged[1:3] for judged in told[14:]])


class LikelyChangesNothing(unittest.TestCase):
    def test_asked_twice(self):
        told = ask(begins(3, [1]), act(0, 1, 1, 1, 2, 1), likely(), likely(), act(0, 1, 1, 2, 2, 1), likely(), likely())
        self.assertEqual(told[2:], [[1, 0, 0], [1, 0, 0], [1], [1, 0, 1], [1, 0, 1]])

    def test_begun_anew(self):
        told = ask(begins(2, [1]), act(0, 1, 1, 1), likely(), begins(2, [1]), likely(), act(0, 1, 1, 1), likely())
        self.assertEqual(told[2:], [[1, 0, 0], [0], [0], [0], [1, 0, 0]])


if __name__ == "__main__":
    unittest.main()
