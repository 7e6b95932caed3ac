import unittest

from tests.helper import LARGEST, act, ask, begins, chance, cost, last


class CostAnswers(unittest.TestCase):
    def told(self, state, many, wanted, *acts):
        return last(begins(many, wanted), *acts, cost(state))

    def test_a_wanted_state_costs_nothing(self):
        self.assertEqual(self.told(1, 2, [1]), [0, 0, 1])
        self.assertEqual(self.told(1, 2, [1], act(1, 9, 1, 1)), [0, 0, 1])

    def test_one_step(self):
        self.assertEqual(self.told(0, 2, [1], act(0, 7, 1, 13)), [0, 7, 1])

    def test_steps_add_up(self):
        acts = [act(0, 1, 1, 1), act(1, 10, 2, 1), act(2, 100, 3, 1)]
        self.assertEqual(self.told(0, 4, [3], *acts), [0, 111, 1])

    def test_it_ends_at_the_first_wanted_state(self):
        acts = [act(0, 3, 1, 1), act(1, 50, 2, 1)]
        self.assertEqual(self.told(0, 3, [1, 2], *acts), [0, 3, 1])

    def test_sure_only_by_trying_again(self):
        self.assertEqual(self.told(0, 2, [1], act(0, 1, 0, 1, 1, 1)), [0, 2, 1])
        self.assertEqual(self.told(0, 2, [1], act(0, 5, 0, 1, 1, 2)), [0, 15, 2])
        self.assertEqual(self.told(0, 2, [1], act(0, 100, 0, 20, 1, 1)), [0, 2100, 1])

    def test_lowest_terms(self):
        self.assertEqual(self.told(0, 3, [2], act(0, 6, 0, 2, 1, 2, 2, 4), act(1, 4, 2, 8)), [0, 28, 3])

    def test_trying_again_round_a_ring(self):
        acts = [act(0, 2, 1, 1), act(1, 3, 2, 1), act(2, 5, 0, 1, 3, 1)]
        self.assertEqual([self.told(state, 4, [3], *acts) for state in range(4)],
                         [[0, 20, 1], [0, 18, 1], [0, 15, 1], [0, 0, 1]])

    def test_the_likely_act_is_not_the_cheap_one(self):
        likely = act(0, 100, 1, 1)
        cheap = act(0, 1, 0, 19, 1, 1)
        self.assertEqual(self.told(0, 2, [1], likely, cheap), [0, 20, 1])
        self.assertEqual(self.told(0, 2, [1], cheap, likely), [0, 20, 1])

    def test_the_act_that_costs_less_is_not_the_cheap_one(self):
        acts = [act(0, 1, 0, 20, 1, 1), act(0, 20, 1, 1)]
        self.assertEqual(self.told(0, 2, [1], *acts), [0, 20, 1])

    def test_the_longer_road_may_be_cheaper(self):
        acts = [act(0, 100, 3, 1), act(0, 20, 1, 1), act(1, 20, 2, 1), act(2, 20, 3, 1)]
        self.assertEqual(self.told(0, 4, [3], *acts), [0, 60, 1])

    def test_a_cheap_act_may_lead_to_where_it_is_not_sure(self):
        acts = [act(0, 1, 1, 19, 2, 1), act(0, 50, 1, 1)]
        self.assertEqual(self.told(0, 3, [1], *acts), [0, 50, 1])
        half = act(2, 1, 1, 1, 3, 1)
        self.assertEqual(self.told(0, 4, [1], *acts, half), [0, 50, 1])
        whole = act(2, 1, 1, 1)
        self.assertEqual(self.told(0, 4, [1], *acts, whole), [0, 21, 20])

    def test_where_it_is_not_sure_one_may_not_go_on_the_way_either(self):
        acts = [act(0, 1, 1, 1), act(1, 1, 2, 1, 3, 1), act(1, 90, 3, 1), act(0, 80, 3, 1)]
        self.assertEqual(self.told(0, 4, [3], *acts), [0, 80, 1])
        self.assertEqual(self.told(1, 4, [3], *acts), [0, 90, 1])

    def test_going_round_is_cheap_but_never_comes_there(self):
        acts = [act(0, 1, 0, 1), act(0, 1, 1, 1), act(1, 1, 0, 1), act(0, 100, 2, 1)]
        for order in (acts, acts[::-1]):
            self.assertEqual(self.told(0, 3, [2], *order), [0, 100, 1])
            self.assertEqual(self.told(1, 3, [2], *order), [0, 101, 1])

    def test_one_cheaper_act_lets_another_be_cheaper(self):
        acts = [act(0, 40, 3, 1), act(0, 5, 1, 1), act(1, 60, 3, 1), act(1, 5, 2, 1),
                act(2, 70, 3, 1), act(2, 5, 2, 1, 3, 1)]
        self.assertEqual([self.told(state, 4, [3], *acts) for state in range(3)],
                         [[0, 20, 1], [0, 15, 1], [0, 10, 1]])

    def test_large_costs(self):
        acts = [act(0, 100, 0, 20, 1, 1)]
        acts += [act(state, 100, 0, 20, state + 1, 1) for state in range(1, 5)]
        tries = sum(21 ** steps for steps in range(1, 6))
        self.assertEqual(self.told(0, 6, [5], *acts), [0, 100 * tries, 1])

    def test_a_large_denominator(self):
        acts = [act(state, 1, 0, 1, state + 1, 20) for state in range(1, 5)]
        acts.append(act(0, 1, 0, 1, 1, 20))
        tries = sum(21 ** steps * 20 ** (5 - steps) for steps in range(1, 6))
        self.assertEqual(self.told(0, 6, [5], *acts), [0, tries, 20 ** 5])


class CostRefuses(unittest.TestCase):
    def test_no_such_state(self):
        for many in range(1, 7):
            for state in (many, many + 1, 255, LARGEST):
                self.assertEqual(last(begins(many), cost(state)), [-2])
                self.assertEqual(last(begins(many, [0]), cost(state)), [-2])
            self.assertEqual(last(begins(many, [many - 1]), cost(many - 1)), [0, 0, 1])

    def test_not_sure(self):
        self.assertEqual(last(begins(1), cost(0)), [-6])
        self.assertEqual(last(begins(2, [1]), cost(0)), [-6])
        self.assertEqual(last(begins(2, [1]), act(0, 1, 0, 1), cost(0)), [-6])
        self.assertEqual(last(begins(3, [1]), act(0, 1, 1, 20, 2, 1), cost(0)), [-6])
        self.assertEqual(last(begins(3, [1]), act(0, 1, 0, 20, 1, 20, 2, 1), cost(0)), [-6])

    def test_not_sure_because_of_a_later_state(self):
        acts = [act(0, 1, 1, 1), act(1, 1, 2, 19, 3, 1)]
        told = ask(begins(4, [2]), *acts, cost(0), cost(1), cost(2), cost(3))
        self.assertEqual(told[3:], [[-6], [-6], [0, 0, 1], [-6]])

    def test_at_the_beginning(self):
        self.assertEqual(ask(cost(0), cost(1)), [[-6], [-2]])

    def test_all_is_as_it_was(self):
        told = ask(begins(3, [1]), act(0, 3, 1, 1, 2, 1), cost(0), cost(3), chance(0), act(2, 4, 1, 1), cost(0))
        self.assertEqual(told[2:], [[-6], [-2], [0, 1, 2], [1], [0, 5, 1]])

    def test_an_answer_changes_nothing(self):
        told = ask(begins(2, [1]), act(0, 9, 1, 1), cost(0), cost(0), act(0, 8, 1, 1), cost(0), chance(0))
        self.assertEqual(told[2:], [[0, 9, 1], [0, 9, 1], [1], [0, 8, 1], [0, 1, 1]])


if __name__ == "__main__":
    unittest.main()
