import unittest

from tests.helper import act, ask, begins, cheap, cost, judge, last, likely, rule_numbers


class CheapAnswers(unittest.TestCase):
    def told(self, many, wanted, *acts):
        return last(begins(many, wanted), *acts, cheap())

    def test_at_the_beginning(self):
        self.assertEqual(ask(cheap()), [[0]])

    def test_no_act(self):
        for many in (1, 2, 6):
            self.assertEqual(self.told(many, []), [0])
            self.assertEqual(self.told(many, [many - 1]), [0])

    def test_nothing_wanted(self):
        self.assertEqual(self.told(2, [], act(0, 1, 0, 1, 1, 1), act(1, 1, 0, 1)), [0])

    def test_all_states_wanted(self):
        acts = [act(state, 1, 0, 1, 5, 1) for state in range(6)] * 2
        self.assertEqual(self.told(6, [0, 1, 2, 3, 4, 5], *acts), [0])

    def test_one_act(self):
        self.assertEqual(self.told(2, [1], act(0, 1, 1, 1)), [1, 0, 0])
        self.assertEqual(self.told(2, [1], act(0, 1, 0, 20, 1, 1)), [1, 0, 0])

    def test_the_cheaper_act(self):
        self.assertEqual(self.told(2, [1], act(0, 8, 1, 1), act(0, 7, 1, 1)), [1, 0, 1])
        self.assertEqual(self.told(2, [1], act(0, 7, 1, 1), act(0, 8, 1, 1)), [1, 0, 0])

    def test_the_lowest_of_the_same_whole_cost(self):
        again, once, other = act(0, 5, 0, 1, 1, 1), act(0, 10, 1, 1), act(0, 11, 1, 1)
        self.assertEqual(self.told(2, [1], other, again, once), [1, 0, 1])
        self.assertEqual(self.told(2, [1], once, other, again), [1, 0, 0])
        self.assertEqual(self.told(2, [1], other, other, once, once), [1, 0, 2])

    def test_the_same_whole_cost_by_a_longer_road(self):
        acts = [act(0, 4, 1, 1), act(0, 10, 2, 1), act(1, 6, 2, 1)]
        self.assertEqual(self.told(3, [2], *acts), [2, 0, 0, 1, 2])
        self.assertEqual(self.told(3, [2], acts[1], acts[2], acts[0]), [2, 0, 0, 1, 1])

    def test_the_same_whole_cost_as_a_fraction(self):
        acts = [act(0, 8, 1, 1), act(0, 5, 0, 1, 1, 2), act(0, 6, 0, 1, 1, 4), act(0, 3, 0, 3, 1, 2)]
        self.assertEqual(self.told(2, [1], *acts), [1, 0, 1])
        self.assertEqual(self.told(2, [1], acts[0], *acts[2:]), [1, 0, 1])

    def test_the_act_that_costs_less_is_not_the_cheap_one(self):
        acts = [act(0, 1, 0, 20, 1, 1), act(0, 20, 1, 1)]
        self.assertEqual(self.told(2, [1], *acts), [1, 0, 1])

    def test_trying_again_may_be_the_cheap_one(self):
        self.assertEqual(self.told(2, [1], act(0, 100, 1, 1), act(0, 1, 0, 19, 1, 1)), [1, 0, 1])

    def test_a_cheaper_act_may_lead_to_where_it_is_not_sure(self):
        acts = [act(0, 1, 1, 19, 2, 1), act(0, 50, 1, 1)]
        self.assertEqual(self.told(3, [1], *acts), [1, 0, 1])
        self.assertEqual(self.told(4, [1], *acts, act(2, 1, 1, 1, 3, 1)), [1, 0, 1])
        self.assertEqual(self.told(4, [1], *acts, act(2, 1, 1, 1)), [2, 0, 0, 2, 2])

    def test_costs_alike_but_may_lead_to_where_it_is_not_sure(self):
        acts = [act(0, 50, 2, 1), act(0, 50, 1, 19, 2, 1), act(0, 50, 1, 1)]
        self.assertEqual(self.told(3, [1], *acts), [1, 0, 2])

    def test_nothing_of_states_with_a_best_chance_below_1(self):
        acts = [act(0, 1, 1, 19, 2, 1), act(2, 1, 2, 1), act(3, 1, 1, 1), act(4, 1, 0, 1, 3, 1)]
        self.assertEqual(self.told(5, [1], *acts), [1, 3, 2])

    def test_nothing_of_wanted_states(self):
        acts = [act(1, 1, 1, 1), act(1, 1, 2, 1), act(2, 1, 1, 1), act(0, 1, 2, 1)]
        self.assertEqual(self.told(3, [1, 2], *acts), [1, 0, 3])

    def test_going_round_is_never_told(self):
        acts = [act(0, 1, 0, 1), act(0, 1, 1, 1), act(1, 1, 0, 1), act(0, 100, 2, 1)]
        self.assertEqual(self.told(3, [2], *acts), [2, 0, 3, 1, 2])

    def test_one_cheaper_act_lets_another_be_cheaper(self):
        acts = [act(0, 40, 3, 1), act(0, 5, 1, 1), act(1, 60, 3, 1), act(1, 5, 2, 1),
                act(2, 70, 3, 1), act(2, 5, 2, 1, 3, 1)]
        self.assertEqual(self.told(4, [3], *acts), [3, 0, 1, 1, 3, 2, 5])

    def test_it_need_not_lead_nearer(self):
        acts = [act(0, 100, 3, 1), act(0, 1, 1, 1), act(1, 1, 2, 1), act(2, 1, 3, 1)]
        house = [begins(4, [3]), *acts]
        self.assertEqual(ask(*house, likely(), cheap())[5:], [[3, 0, 0, 1, 2, 2, 3], [3, 0, 1, 1, 2, 2, 3]])

    def test_states_rise_in_whatever_order_the_acts_are(self):
        acts = [act(4, 1, 2, 1), act(0, 1, 2, 1), act(5, 1, 4, 1), act(1, 1, 5, 1), act(3, 1, 1, 1)]
        self.assertEqual(self.told(6, [2], *acts), [5, 0, 1, 1, 3, 3, 4, 4, 0, 5, 2])

    def test_the_last_of_twelve_acts(self):
        self.assertEqual(self.told(2, [1], *[act(0, 2, 1, 1)] * 11, act(0, 1, 1, 1)), [1, 0, 11])

    def test_its_rule_has_the_best_costs(self):
        house = [begins(6, [4]), act(0, 3, 0, 1, 1, 2), act(0, 90, 4, 1), act(1, 7, 0, 1, 2, 3), act(1, 1, 4, 9, 5, 1),
                 act(2, 2, 1, 5, 4, 1), act(2, 20, 0, 1, 4, 6), act(3, 4, 2, 1, 3, 1)]
        rule = rule_numbers(last(*house, cheap()))
        self.assertEqual(rule[0::2], [0, 1, 2, 3])
        told = ask(*house, *[cost(state) for state in range(5)], *[judge(state, *rule) for state in range(5)])
        self.assertEqual([[1, 1, 1, *best[1:]] for best in told[8:13]], told[13:])


class CheapChangesNothing(unittest.TestCase):
    def test_asked_twice(self):
        told = ask(begins(2, [1]), act(0, 2, 1, 1), cheap(), cheap(), act(0, 1, 1, 1), cheap(), cheap(), cost(0))
        self.assertEqual(told[2:], [[1, 0, 0], [1, 0, 0], [1], [1, 0, 1], [1, 0, 1], [0, 1, 1]])

    def test_begun_anew(self):
        told = ask(begins(2, [1]), act(0, 1, 1, 1), cheap(), begins(2, [1]), cheap(), act(0, 1, 1, 1), cheap())
        self.assertEqual(told[2:], [[1, 0, 0], [0], [0], [0], [1, 0, 0]])


if __name__ == "__main__":
    unittest.main()
