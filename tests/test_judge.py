import unittest

from tests.helper import LARGEST, act, ask, begins, chance, cheap, cost, judge, last, likely

STOPPED = [0, 0, 1]
COME = [1, 1, 1, 0, 1]


class JudgeAnswers(unittest.TestCase):
    def told(self, state, rule, many, wanted, *acts):
        return last(begins(many, wanted), *acts, judge(state, *rule))

    def test_at_the_beginning(self):
        self.assertEqual(ask(judge(0), judge(0, 0, 0), judge(1)), [STOPPED, STOPPED, [-2]])

    def test_a_rule_of_no_numbers(self):
        self.assertEqual(self.told(0, [], 2, [1], act(0, 1, 1, 1)), STOPPED)
        self.assertEqual(self.told(1, [], 2, [1], act(0, 1, 1, 1)), COME)

    def test_sure_in_one_step(self):
        self.assertEqual(self.told(0, [0, 0], 2, [1], act(0, 7, 1, 3)), [1, 1, 1, 7, 1])

    def test_sure_by_trying_again_and_again(self):
        self.assertEqual(self.told(0, [0, 0], 2, [1], act(0, 1, 0, 1, 1, 1)), [1, 1, 1, 2, 1])
        self.assertEqual(self.told(0, [0, 0], 2, [1], act(0, 5, 0, 1, 1, 2)), [1, 1, 1, 15, 2])
        self.assertEqual(self.told(0, [0, 0], 2, [1], act(0, 100, 0, 20, 1, 1)), [1, 1, 1, 2100, 1])

    def test_sure_by_trying_again_round_a_ring(self):
        acts = [act(0, 2, 1, 1), act(1, 3, 2, 1), act(2, 5, 0, 1, 3, 1)]
        told = [self.told(state, [2, 2, 0, 0, 1, 1], 4, [3], *acts) for state in range(4)]
        self.assertEqual(told, [[1, 1, 1, 20, 1], [1, 1, 1, 18, 1], [1, 1, 1, 15, 1], COME])

    def test_not_sure(self):
        self.assertEqual(self.told(0, [0, 0], 3, [1], act(0, 1, 1, 3, 2, 4)), [0, 3, 7])
        self.assertEqual(self.told(0, [0, 0], 3, [1], act(0, 1, 1, 20, 2, 1)), [0, 20, 21])
        self.assertEqual(self.told(0, [0, 0], 3, [1], act(0, 1, 0, 18, 1, 2, 2, 4)), [0, 1, 3])

    def test_never_coming_there(self):
        self.assertEqual(self.told(0, [0, 0], 3, [1], act(0, 1, 2, 1)), STOPPED)
        self.assertEqual(self.told(0, [0, 0], 2, [], act(0, 1, 1, 1)), STOPPED)

    def test_round_without_end(self):
        self.assertEqual(self.told(0, [0, 0], 2, [1], act(0, 1, 0, 1), act(0, 1, 1, 1)), STOPPED)
        acts = [act(0, 1, 1, 1), act(1, 1, 2, 1), act(2, 1, 0, 1), act(2, 1, 3, 1)]
        for state in range(3):
            self.assertEqual(self.told(state, [0, 0, 1, 1, 2, 2], 4, [3], *acts), STOPPED)

    def test_maybe_into_a_ring_without_end(self):
        acts = [act(0, 1, 1, 2, 3, 1), act(1, 1, 2, 1), act(2, 1, 1, 1), act(2, 1, 3, 1)]
        self.assertEqual(self.told(0, [0, 0, 1, 1, 2, 2], 4, [3], *acts), [0, 1, 3])
        self.assertEqual(self.told(0, [0, 0, 1, 1, 2, 3], 4, [3], *acts), [1, 1, 1, 7, 3])

    def test_it_stops_where_nothing_is_told(self):
        acts = [act(0, 1, 1, 1, 2, 1), act(1, 1, 2, 1)]
        self.assertEqual(self.told(0, [0, 0], 3, [2], *acts), [0, 1, 2])
        self.assertEqual(self.told(1, [0, 0], 3, [2], *acts), STOPPED)
        self.assertEqual(self.told(0, [0, 0, 1, 1], 3, [2], *acts), [1, 1, 1, 3, 2])

    def test_it_stops_where_an_act_of_another_state_is_told(self):
        acts = [act(0, 1, 1, 1, 2, 1), act(1, 1, 2, 1)]
        self.assertEqual(self.told(0, [0, 1], 3, [2], *acts), STOPPED)
        self.assertEqual(self.told(0, [0, 0, 1, 0], 3, [2], *acts), [0, 1, 2])
        self.assertEqual(self.told(0, [0, 1, 1, 1], 3, [2], *acts), STOPPED)
        self.assertEqual(self.told(1, [0, 1, 1, 1], 3, [2], *acts), [1, 1, 1, 1, 1])

    def test_it_stops_where_an_act_is_told_that_is_not_there(self):
        for number in (1, 2, 11, 12, 13, 255, LARGEST):
            self.assertEqual(self.told(0, [0, number], 2, [1], act(0, 1, 1, 1)), STOPPED)
        self.assertEqual(self.told(0, [0, 0], 2, [1]), STOPPED)

    def test_the_last_of_twelve_acts(self):
        acts = [*[act(0, 3, 0, 1)] * 11, act(0, 8, 1, 1)]
        told = ask(begins(2, [1]), *acts, judge(0, 0, 10), judge(0, 0, 11), judge(0, 0, 12))
        self.assertEqual(told[13:], [STOPPED, [1, 1, 1, 8, 1], STOPPED])

    def test_of_a_state_told_twice_the_first_holds(self):
        acts = [act(0, 1, 1, 1, 2, 1), act(0, 9, 1, 1), act(2, 1, 2, 1)]
        self.assertEqual(self.told(0, [0, 0, 0, 1], 3, [1], *acts), [0, 1, 2])
        self.assertEqual(self.told(0, [0, 1, 0, 0], 3, [1], *acts), [1, 1, 1, 9, 1])
        self.assertEqual(self.told(0, [0, 1, 2, 2, 0, 0, 0, 0], 3, [1], *acts), [1, 1, 1, 9, 1])

    def test_the_first_holds_also_where_it_is_no_act_of_that_state(self):
        acts = [act(0, 9, 1, 1), act(2, 1, 1, 1)]
        for number in (1, 2, 12, LARGEST):
            self.assertEqual(self.told(0, [0, number, 0, 0], 3, [1], *acts), STOPPED)

    def test_what_is_told_of_wanted_states_does_not_count(self):
        acts = [act(1, 9, 2, 1), act(1, 9, 1, 1), act(0, 4, 1, 1), act(2, 1, 2, 1)]
        for number in (0, 1, 2, 3, 4, LARGEST):
            self.assertEqual(self.told(1, [1, number], 3, [1], *acts), COME)
            self.assertEqual(self.told(0, [1, number, 0, 2, 2, 3], 3, [1], *acts), [1, 1, 1, 4, 1])

    def test_it_ends_at_the_first_wanted_state(self):
        acts = [act(0, 3, 1, 1), act(1, 50, 2, 1), act(2, 60, 2, 1)]
        self.assertEqual(self.told(0, [0, 0, 1, 1, 2, 2], 3, [1, 2], *acts), [1, 1, 1, 3, 1])

    def test_what_is_told_of_states_that_are_not_there_does_not_count(self):
        acts = [act(0, 5, 1, 1)]
        for state in (2, 3, 6, 12, LARGEST):
            self.assertEqual(self.told(0, [state, 0, 0, 0, state, LARGEST], 2, [1], *acts), [1, 1, 1, 5, 1])
            self.assertEqual(self.told(0, [state, 0], 2, [1], *acts), STOPPED)

    def test_rules_of_twenty_numbers(self):
        acts = [act(0, 5, 1, 1), act(1, 6, 2, 1), act(0, 1, 0, 1), act(1, 1, 1, 1)]
        filling = [LARGEST, LARGEST] * 8
        self.assertEqual(self.told(0, filling + [1, 1, 0, 0], 3, [2], *acts), [1, 1, 1, 11, 1])
        self.assertEqual(self.told(0, [0, 0] * 5 + [1, 3] * 5, 3, [2], *acts), STOPPED)
        self.assertEqual(self.told(0, [0, 0, 1, 1] + [0, 2, 1, 3] * 4, 3, [2], *acts), [1, 1, 1, 11, 1])
        self.assertEqual(self.told(2, [LARGEST] * 20, 3, [2], *acts), COME)
        self.assertEqual(self.told(0, [LARGEST] * 20, 3, [2], *acts), STOPPED)

    def test_the_rule_itself_not_a_better_one(self):
        acts = [act(0, 1, 1, 2, 2, 1), act(0, 1, 1, 1, 2, 2), act(0, 30, 1, 1), act(0, 20, 1, 1)]
        told = [self.told(0, [0, number], 3, [1], *acts) for number in range(4)]
        self.assertEqual(told, [[0, 2, 3], [0, 1, 3], [1, 1, 1, 30, 1], [1, 1, 1, 20, 1]])

    def test_sure_from_one_state_and_not_from_another(self):
        acts = [act(0, 1, 1, 1, 2, 1), act(1, 6, 1, 1, 3, 1), act(2, 1, 2, 2, 3, 1, 4, 1)]
        told = [self.told(state, [0, 0, 1, 1, 2, 2], 5, [3], *acts) for state in range(5)]
        self.assertEqual(told, [[0, 3, 4], [1, 1, 1, 12, 1], [0, 1, 2], COME, STOPPED])

    def test_not_sure_from_a_state_that_comes_to_sure_ones_too(self):
        acts = [act(0, 1, 0, 18, 1, 1, 2, 1), act(1, 1, 3, 1)]
        self.assertEqual(self.told(0, [0, 0, 1, 1], 4, [3], *acts), [0, 1, 2])

    def test_one_state(self):
        self.assertEqual(self.told(0, [0, 0], 1, [0], act(0, 1, 0, 1)), COME)
        self.assertEqual(self.told(0, [0, 0], 1, [], act(0, 1, 0, 1)), STOPPED)

    def test_all_of_six_states_wanted(self):
        rule = [number for state in range(6) for number in (state, state)]
        acts = [act(state, 1, 0, 1) for state in range(6)]
        for state in range(6):
            self.assertEqual(self.told(state, rule, 6, [0, 1, 2, 3, 4, 5], *acts), COME)

    def test_none_of_six_states_wanted(self):
        rule = [number for state in range(6) for number in (state, state)]
        acts = [act(state, 1, (state + 1) % 6, 1) for state in range(6)]
        for state in range(6):
            self.assertEqual(self.told(state, rule, 6, [], *acts), STOPPED)

    def test_to_and_fro_between_two_ends(self):
        acts = [act(1, 1, 0, 1, 2, 1), act(2, 1, 1, 1, 3, 1), act(3, 1, 2, 1, 4, 1), act(4, 1, 3, 1, 5, 1)]
        rule = [1, 0, 2, 1, 3, 2, 4, 3]
        told = [self.told(state, rule, 6, [5], *acts) for state in range(1, 5)]
        self.assertEqual(told, [[0, 1, 5], [0, 2, 5], [0, 3, 5], [0, 4, 5]])
        told = [self.told(state, rule, 6, [0, 5], *acts) for state in range(6)]
        self.assertEqual(told, [COME, [1, 1, 1, 4, 1], [1, 1, 1, 6, 1], [1, 1, 1, 6, 1], [1, 1, 1, 4, 1], COME])

    def test_large_numbers(self):
        acts = [act(0, 100, 0, 20, 1, 1)] + [act(state, 100, 0, 20, state + 1, 1) for state in range(1, 5)]
        tries = sum(21 ** steps for steps in range(1, 6))
        rule = [0, 0, 1, 1, 2, 2, 3, 3, 4, 4]
        self.assertEqual(self.told(0, rule, 6, [5], *acts), [1, 1, 1, 100 * tries, 1])
        acts = [act(state, 1, state + 1, 1, 5, 20) for state in range(4)]
        self.assertEqual(self.told(0, rule[:8], 6, [4], *acts), [0, 1, 21 ** 4])


class JudgeRefuses(unittest.TestCase):
    def test_no_such_state(self):
        for many in range(1, 7):
            for state in (many, many + 1, 255, LARGEST):
                for rule in ([], [0, 0], [state, 0], [LARGEST] * 20):
                    self.assertEqual(last(begins(many, [0]), judge(state, *rule)), [-2])
            self.assertEqual(last(begins(many), judge(many - 1)), STOPPED)

    def test_a_number_left_over(self):
        for rule in ([0], [0, 0, 1], [0, 0, LARGEST], [LARGEST] * 19):
            for state in range(2):
                self.assertEqual(last(begins(2, [1]), act(0, 1, 1, 1), judge(state, *rule)), [-1])

    def test_no_such_state_comes_first(self):
        for rule in ([0], [0, 0, 1], [LARGEST] * 19):
            for state in (2, 3, LARGEST):
                self.assertEqual(last(begins(2, [1]), act(0, 1, 1, 1), judge(state, *rule)), [-2])

    def test_all_is_as_it_was(self):
        for wrong, refusal in ((judge(3), [-2]), (judge(0, 0), [-1]), (judge(3, 0), [-2])):
            told = ask(begins(3, [2]), act(0, 4, 1, 1, 2, 1), act(1, 6, 2, 1), wrong, judge(0, 0, 0, 1, 1), judge(0, 0, 0),
                       chance(0), cost(0), likely(), cheap(), act(1, 1, 2, 1))
            self.assertEqual(told[3:], [refusal, [1, 1, 1, 7, 1], [0, 1, 2], [0, 1, 1], [0, 7, 1],
                                        [2, 0, 0, 1, 1], [2, 0, 0, 1, 1], [2]])

    def test_an_answer_changes_nothing(self):
        told = ask(begins(2, [1]), act(0, 9, 1, 1), judge(0, 0, 0), judge(0), judge(0, 0, 0), chance(0),
                   judge(0, 0, 1), act(0, 8, 1, 1), judge(0, 0, 1), judge(0, 0, 0), cost(0))
        self.assertEqual(told[2:], [[1, 1, 1, 9, 1], STOPPED, [1, 1, 1, 9, 1], [0, 1, 1],
                                    STOPPED, [1], [1, 1, 1, 8, 1], [1, 1, 1, 9, 1], [0, 8, 1]])

    def test_begun_anew(self):
        told = ask(begins(2, [1]), act(0, 9, 1, 1), judge(0, 0, 0), begins(2, [1]), judge(0, 0, 0),
                   act(0, 3, 1, 1), judge(0, 0, 0))
        self.assertEqual(told[2:], [[1, 1, 1, 9, 1], [0], STOPPED, [0], [1, 1, 1, 3, 1]])


if __name__ == "__main__":
    unittest.main()
