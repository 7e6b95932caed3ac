import unittest

from tests.helper import LARGEST, act, ask, begins, chance, cost, last


class BeginsAnswers(unittest.TestCase):
    def test_each_allowed_number_of_states(self):
        for many in range(1, 7):
            with self.subTest(many=many):
                told = ask(begins(many), chance(many - 1), chance(many))
                self.assertEqual(told, [[0], [0, 0, 1], [-2]])

    def test_wanted_states_are_the_told_ones(self):
        told = ask(begins(6, [0, 2, 5]), *[chance(state) for state in range(6)])
        self.assertEqual([part[1] for part in told[1:]], [1, 0, 1, 0, 0, 1])

    def test_all_states_may_be_wanted(self):
        told = ask(begins(6, [0, 1, 2, 3, 4, 5]), *[chance(state) for state in range(6)])
        self.assertEqual(told, [[0]] + [[0, 1, 1]] * 6)

    def test_none_may_be_wanted(self):
        self.assertEqual(ask(begins(3, []), act(0, 1, 1, 1), chance(0)), [[0], [0], [0, 0, 1]])

    def test_takes_away_the_acts(self):
        told = ask(begins(2, [1]), act(0, 1, 1, 1), act(0, 2, 1, 1), chance(0),
                   begins(2, [1]), chance(0), cost(0), act(0, 3, 1, 1), cost(0))
        self.assertEqual(told, [[0], [0], [1], [0, 1, 1], [0], [0, 0, 1], [-6], [0], [0, 3, 1]])

    def test_makes_room_for_twelve_acts_again(self):
        twelve = [act(0, 1, 1, 1)] * 12
        told = ask(begins(2, [1]), *twelve, begins(2, [1]), *twelve, act(0, 1, 1, 1))
        numbers = [[number] for number in range(12)]
        self.assertEqual(told, [[0], *numbers, [0], *numbers, [-7]])

    def test_fewer_states_than_before(self):
        told = ask(begins(6, [5]), begins(2, [1]), chance(1), chance(2), begins(6, [5]), chance(1), chance(5))
        self.assertEqual(told, [[0], [0], [0, 1, 1], [-2], [0], [0, 0, 1], [0, 1, 1]])


class BeginsRefuses(unittest.TestCase):
    def refused(self, many, wanted):
        with self.subTest(many=many, wanted=wanted):
            self.assertEqual(last(begins(6, [5]), begins(many, wanted)), [-1])

    def test_not_one_to_six_states(self):
        for many in (0, 7, 8, 256, LARGEST):
            self.refused(many, [])
            self.refused(many, [0])

    def test_wanted_ones_do_not_rise(self):
        for wanted in ([1, 0], [0, 0], [2, 3, 3], [0, 2, 1], [5, 4, 3, 2, 1, 0], [0] * 20):
            self.refused(6, wanted)

    def test_a_wanted_one_is_not_there(self):
        for many in range(1, 7):
            self.assertEqual(last(begins(many, [many - 1])), [0])
            self.refused(many, [many])
            self.refused(many, [0, many])
            self.refused(many, [LARGEST])

    def test_twenty_rising_ones(self):
        self.refused(6, list(range(20)))

    def test_several_faults_at_once(self):
        self.refused(0, [1, 0])
        self.refused(7, [9, 9])
        self.refused(LARGEST, [LARGEST] * 20)

    def test_all_is_as_it_was(self):
        for many, wanted in ((0, []), (7, []), (3, [2, 1]), (3, [3]), (1, [0, 0])):
            with self.subTest(many=many, wanted=wanted):
                told = ask(begins(3, [2]), act(0, 4, 1, 1, 2, 1), act(1, 6, 2, 1), begins(many, wanted),
                           chance(0), chance(1), chance(2), cost(0), cost(2), act(1, 1, 2, 1), chance(3))
                self.assertEqual(told[3:], [[-1], [0, 1, 1], [0, 1, 1], [0, 1, 1], [0, 7, 1], [0, 0, 1], [2], [-2]])

    def test_refused_at_the_beginning(self):
        told = ask(begins(0), chance(0), chance(1), act(0, 1, 0, 1))
        self.assertEqual(told, [[-1], [0, 0, 1], [-2], [0]])


if __name__ == "__main__":
    unittest.main()
