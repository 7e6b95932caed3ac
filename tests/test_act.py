import unittest

from tests.helper import LARGEST, act, ask, begins, chance, cost, last


class ActAnswers(unittest.TestCase):
    def test_its_number(self):
        told = ask(begins(3, [2]), act(0, 1, 1, 1), act(1, 1, 2, 1), act(0, 1, 0, 1, 2, 1), act(2, 1, 0, 1))
        self.assertEqual(told, [[0], [0], [1], [2], [3]])

    def test_twelve_are_taken_and_no_thirteenth(self):
        told = ask(begins(2, [1]), *[act(0, 5, 1, 1)] * 13)
        self.assertEqual(told, [[0], *[[number] for number in range(12)], [-7]])

    def test_the_twelfth_counts(self):
        told = ask(begins(2, [1]), *[act(0, 5, 0, 1)] * 11, act(0, 9, 1, 1), chance(0), cost(0))
        self.assertEqual(told[-2:], [[0, 1, 1], [0, 9, 1]])

    def test_least_and_greatest_cost(self):
        for price in (1, 100):
            self.assertEqual(ask(begins(2, [1]), act(0, price, 1, 1), cost(0))[1:], [[0], [0, price, 1]])

    def test_least_and_greatest_weight(self):
        told = ask(begins(3, [1]), act(0, 1, 1, 1, 2, 20), chance(0))
        self.assertEqual(told[1:], [[0], [0, 1, 21]])
        told = ask(begins(3, [1]), act(0, 1, 1, 20, 2, 1), chance(0))
        self.assertEqual(told[1:], [[0], [0, 20, 21]])

    def test_leads_to_all_states(self):
        told = ask(begins(6, [5]), act(0, 1, 0, 1, 1, 2, 2, 3, 3, 4, 4, 5, 5, 6), chance(0))
        self.assertEqual(told[1:], [[0], [0, 3, 10]])

    def test_in_the_last_state(self):
        told = ask(begins(6, [0]), act(5, 1, 0, 1), chance(5))
        self.assertEqual(told[1:], [[0], [0, 1, 1]])

    def test_at_the_beginning(self):
        self.assertEqual(ask(act(0, 1, 0, 1), act(0, 1, 0, 20), chance(0)), [[0], [1], [0, 0, 1]])


class ActRefuses(unittest.TestCase):
    def refused(self, *call):
        with self.subTest(call=call):
            self.assertEqual(last(begins(4, [3]), act(*call)), [-1])

    def test_a_number_left_over(self):
        self.refused(0, 1, 1)
        self.refused(0, 1, 1, 1, 2)
        self.refused(0, 1, *range(19))

    def test_no_such_state(self):
        for state in (4, 5, 6, LARGEST):
            self.refused(state, 1, 3, 1)
        for many in range(1, 7):
            told = ask(begins(many), act(many - 1, 1, 0, 1), act(many, 1, 0, 1))
            self.assertEqual(told[1:], [[0], [-1]])

    def test_cost_not_one_to_a_hundred(self):
        for price in (0, 101, 102, LARGEST):
            self.refused(0, price, 3, 1)

    def test_leads_nowhere(self):
        self.refused(0, 1)

    def test_states_do_not_rise(self):
        self.refused(0, 1, 1, 1, 0, 1)
        self.refused(0, 1, 1, 1, 1, 1)
        self.refused(0, 1, 0, 1, 2, 1, 1, 1)
        self.refused(0, 1, *[1] * 20)

    def test_a_state_that_is_led_to_is_not_there(self):
        for state in (4, 5, 6, LARGEST):
            self.refused(0, 1, state, 1)
            self.refused(0, 1, 0, 1, state, 1)
        for many in range(1, 7):
            told = ask(begins(many), act(0, 1, many - 1, 1), act(0, 1, many, 1))
            self.assertEqual(told[1:], [[0], [-1]])

    def test_ten_rising_states(self):
        self.refused(0, 1, *[number for state in range(10) for number in (state, 1)])

    def test_weight_not_one_to_twenty(self):
        for weight in (0, 21, 22, LARGEST):
            self.refused(0, 1, 1, weight)
            self.refused(0, 1, 0, weight, 1, 1)
            self.refused(0, 1, 0, 1, 1, weight)

    def test_several_faults_at_once(self):
        self.refused(4, 0)
        self.refused(0, 101, 1)
        self.refused(LARGEST, LARGEST, *[LARGEST] * 20)

    def test_twelve_acts_come_ahead_of_all_else(self):
        wrong = [act(4, 1, 3, 1), act(0, 0, 3, 1), act(0, 101, 3, 1), act(0, 1), act(0, 1, 3),
                 act(0, 1, 1, 1, 0, 1), act(0, 1, 4, 1), act(0, 1, 3, 0), act(0, 1, 3, 21),
                 act(LARGEST, LARGEST, *[LARGEST] * 19)]
        told = ask(begins(4, [3]), *[act(0, 1, 3, 1)] * 12, *wrong)
        self.assertEqual(told[13:], [[-7]] * len(wrong))

    def test_eleven_acts_do_not(self):
        told = ask(begins(4, [3]), *[act(0, 1, 3, 1)] * 11, act(4, 1, 3, 1), act(0, 1, 3, 1), act(4, 1, 3, 1))
        self.assertEqual(told[12:], [[-1], [11], [-7]])

    def test_all_is_as_it_was(self):
        wrong = [act(3, 1, 2, 1), act(0, 0, 2, 1), act(0, 101, 2, 1), act(0, 1), act(0, 1, 2),
                 act(0, 1, 2, 1, 2), act(0, 1, 2, 1, 1, 1), act(0, 1, 3, 1), act(0, 1, 2, 0), act(0, 1, 2, 21)]
        for call in wrong:
            with self.subTest(call=call):
                told = ask(begins(3, [2]), act(0, 8, 1, 1, 2, 3), call, chance(0), cost(0), act(1, 4, 2, 1), cost(0))
                self.assertEqual(told[2:], [[-1], [0, 3, 4], [-6], [1], [0, 9, 1]])

    def test_all_is_as_it_was_after_the_thirteenth(self):
        told = ask(begins(2, [1]), *[act(0, 5, 1, 1)] * 12, act(0, 1, 1, 1), cost(0), act(0, 1, 1, 1))
        self.assertEqual(told[13:], [[-7], [0, 5, 1], [-7]])


if __name__ == "__main__":
    unittest.main()
