import unittest

from tests.helper import LARGEST, act, ask, begins, chance, last


class ChanceAnswers(unittest.TestCase):
    def told(self, state, many, wanted, *acts):
        return last(begins(many, wanted), *acts, chance(state))

    def test_no_act(self):
        self.assertEqual(self.told(0, 2, [1]), [0, 0, 1])

    def test_nothing_wanted(self):
        self.assertEqual(self.told(0, 2, [], act(0, 1, 0, 1, 1, 1), act(1, 1, 0, 1)), [0, 0, 1])

    def test_a_wanted_state_is_come_to_already(self):
        self.assertEqual(self.told(1, 2, [1]), [0, 1, 1])
        self.assertEqual(self.told(1, 2, [1], act(1, 1, 0, 1)), [0, 1, 1])

    def test_it_ends_at_the_first_wanted_state(self):
        acts = [act(0, 1, 1, 1), act(1, 1, 2, 1), act(1, 1, 3, 1)]
        self.assertEqual(self.told(0, 4, [1, 3], *acts), [0, 1, 1])

    def test_acts_of_a_wanted_state_do_not_count(self):
        acts = [act(0, 1, 1, 1, 2, 1), act(1, 1, 2, 1)]
        self.assertEqual(self.told(0, 3, [1], *acts), [0, 1, 2])

    def test_one_step(self):
        self.assertEqual(self.told(0, 3, [1], act(0, 1, 1, 3, 2, 4)), [0, 3, 7])

    def test_lowest_terms(self):
        self.assertEqual(self.told(0, 3, [1], act(0, 1, 1, 2, 2, 4)), [0, 1, 3])
        self.assertEqual(self.told(0, 3, [1], act(0, 1, 1, 20, 2, 20)), [0, 1, 2])
        self.assertEqual(self.told(0, 3, [1], act(0, 1, 1, 20)), [0, 1, 1])

    def test_several_wanted_states_together(self):
        self.assertEqual(self.told(0, 4, [1, 3], act(0, 1, 1, 1, 2, 3, 3, 2)), [0, 1, 2])

    def test_the_better_of_two_acts(self):
        worse = act(0, 1, 1, 1, 2, 2)
        better = act(0, 100, 1, 2, 2, 1)
        self.assertEqual(self.told(0, 3, [1], worse, better), [0, 2, 3])
        self.assertEqual(self.told(0, 3, [1], better, worse), [0, 2, 3])

    def test_the_longer_road_may_be_likelier(self):
        acts = [act(0, 1, 3, 1, 4, 1), act(0, 1, 1, 1), act(1, 1, 2, 9, 4, 1), act(2, 1, 3, 9, 4, 1)]
        self.assertEqual(self.told(0, 5, [3], *acts), [0, 81, 100])

    def test_trying_again_makes_it_sure(self):
        self.assertEqual(self.told(0, 2, [1], act(0, 1, 0, 19, 1, 1)), [0, 1, 1])

    def test_trying_again_till_it_fails(self):
        self.assertEqual(self.told(0, 3, [1], act(0, 1, 0, 18, 1, 1, 2, 1)), [0, 1, 2])
        self.assertEqual(self.told(0, 3, [1], act(0, 1, 0, 20, 1, 1, 2, 2)), [0, 1, 3])

    def test_trying_again_beats_a_likely_act(self):
        acts = [act(0, 1, 1, 19, 2, 1), act(0, 1, 0, 20, 1, 1)]
        self.assertEqual(self.told(0, 3, [1], *acts), [0, 1, 1])

    def test_an_act_that_only_leads_back(self):
        back = act(0, 1, 0, 1)
        away = act(0, 1, 1, 1, 2, 1)
        self.assertEqual(self.told(0, 3, [1], back), [0, 0, 1])
        self.assertEqual(self.told(0, 3, [1], back, away), [0, 1, 2])
        self.assertEqual(self.told(0, 3, [1], away, back), [0, 1, 2])

    def test_a_ring_that_is_never_left(self):
        ring = [act(0, 1, 1, 1), act(1, 1, 2, 1), act(2, 1, 0, 1)]
        for state in range(3):
            self.assertEqual(self.told(state, 4, [3], *ring), [0, 0, 1])

    def test_a_ring_that_is_left_somewhere(self):
        ring = [act(0, 1, 1, 1), act(1, 1, 2, 1), act(2, 1, 0, 3, 3, 1, 4, 1)]
        for state in range(3):
            self.assertEqual(self.told(state, 5, [3], *ring), [0, 1, 2])

    def test_a_ring_of_acts_beside_the_way_out(self):
        ring = [act(0, 1, 1, 1), act(1, 1, 2, 1), act(2, 1, 0, 1)]
        out = [act(1, 1, 3, 2, 4, 3)]
        for acts in (ring + out, out + ring):
            for state in range(3):
                self.assertEqual(self.told(state, 5, [3], *acts), [0, 2, 5])

    def test_to_and_fro_between_two_ends(self):
        acts = [act(1, 1, 0, 1, 2, 1), act(2, 1, 1, 1, 3, 1), act(3, 1, 2, 1, 4, 1), act(4, 1, 3, 1, 5, 1)]
        for state in range(6):
            top, bottom = [(0, 1), (1, 5), (2, 5), (3, 5), (4, 5), (1, 1)][state]
            self.assertEqual(self.told(state, 6, [5], *acts), [0, top, bottom])

    def test_states_that_cannot_come_there(self):
        acts = [act(0, 1, 1, 1, 2, 1), act(2, 1, 3, 1), act(3, 1, 2, 1), act(1, 1, 4, 1)]
        told = [self.told(state, 6, [4], *acts) for state in range(6)]
        self.assertEqual(told, [[0, 1, 2], [0, 1, 1], [0, 0, 1], [0, 0, 1], [0, 1, 1], [0, 0, 1]])

    def test_one_better_act_lets_another_be_better(self):
        acts = [act(0, 1, 3, 1, 4, 1), act(0, 1, 1, 1), act(1, 1, 3, 1, 4, 2), act(1, 1, 2, 1),
                act(2, 1, 3, 1, 4, 3), act(2, 1, 2, 5, 3, 4, 4, 1)]
        told = [self.told(state, 5, [3], *acts) for state in range(3)]
        self.assertEqual(told, [[0, 4, 5]] * 3)

    def test_large_fractions(self):
        acts = [act(state, 1, state + 1, 1, 5, 20) for state in range(4)]
        self.assertEqual(self.told(0, 6, [4], *acts), [0, 1, 21 ** 4])

    def test_the_cost_does_not_count(self):
        acts = [act(0, 1, 1, 1, 2, 1), act(0, 100, 1, 11, 2, 10)]
        self.assertEqual(self.told(0, 3, [1], *acts), [0, 11, 21])


class ChanceRefuses(unittest.TestCase):
    def test_no_such_state(self):
        for many in range(1, 7):
            for state in (many, many + 1, 255, LARGEST):
                self.assertEqual(last(begins(many, [0]), chance(state)), [-2])
            self.assertEqual(last(begins(many), chance(many - 1)), [0, 0, 1])

    def test_all_is_as_it_was(self):
        told = ask(begins(2, [1]), act(0, 1, 0, 1, 1, 1), chance(2), chance(0), act(0, 1, 1, 1))
        self.assertEqual(told[2:], [[-2], [0, 1, 1], [1]])

    def test_an_answer_changes_nothing(self):
        told = ask(begins(3, [1]), act(0, 1, 1, 1, 2, 1), chance(0), chance(0), act(0, 1, 1, 2, 2, 1), chance(0))
        self.assertEqual(told[2:], [[0, 1, 2], [0, 1, 2], [1], [0, 2, 3]])


if __name__ == "__main__":
    unittest.main()
