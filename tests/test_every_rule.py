"""Made-up lines, the same each time, answered as well by trying every rule that there is."""

import random
import unittest
from fractions import Fraction

from tests.helper import (LARGEST, SlowHouse, act, ask, begins, chance, cheap, cost, judge, last, likely, line,
                          rule_numbers)

ODD_NUMBERS = (0, 1, 2, 5, 6, 7, 20, 21, 100, 101, LARGEST)


def some_act(dice, many, sparse):
    states = sorted(dice.sample(range(many), dice.randint(1, min(many, sparse))))
    leads = [number for state in states for number in (state, dice.choice((1, 1, 2, 3, 7, 20)))]
    return act(dice.randrange(many), dice.choice((1, 2, 3, 10, 50, 100)), *leads)


def some_house(dice, many):
    wanted = sorted(dice.sample(range(many), dice.choice((0, 1, 1, 1, min(2, many)))))
    sparse = dice.choice((1, 2, 2, 3, 6))
    return [begins(many, wanted), *[some_act(dice, many, sparse) for turn in range(dice.randint(1, 12))]]


def some_rule(dice, house):
    """Tells of states and acts of the house, mostly of those that belong together, some of them twice."""
    acts = house[1:]
    rule = []
    for turn in range(dice.randint(0, 9)):
        number = dice.randrange(len(acts))
        rule += [acts[number][1], number]
    if dice.random() < 0.3:
        place = 2 * dice.randint(0, len(rule) // 2)
        rule[place:place] = [dice.randrange(8), dice.choice((0, 1, 5, 11, 12, LARGEST))]
    return rule


def odd_call(dice):
    row = [dice.choice(ODD_NUMBERS) for turn in range(dice.choice((0, 1, 2, 3, 4, 20)))]
    kind = dice.randrange(4)
    if kind == 0:
        return begins(dice.choice(ODD_NUMBERS), row)
    if kind == 1:
        return act(dice.choice(ODD_NUMBERS), dice.choice(ODD_NUMBERS), *row)
    if kind == 2:
        return judge(dice.choice(ODD_NUMBERS), *row)
    return dice.choice((chance, cost))(dice.choice(ODD_NUMBERS))


def some_call(dice, house):
    """Any of the seven calls, mostly such as fit the house."""
    many = house[0][1]
    kind = dice.choice(("act", "act", "question", "question", "judge", "judge", "begins", "odd"))
    if kind == "act":
        return some_act(dice, many, 3)
    if kind == "question":
        return dice.choice((chance(dice.randrange(many)), cost(dice.randrange(many)), likely(), cheap()))
    if kind == "judge":
        return judge(dice.randrange(many), *some_rule(dice, house))
    if kind == "begins":
        return begins(many, sorted(dice.sample(range(many), dice.randint(0, many))))
    return odd_call(dice)


def some_line(dice):
    """60 calls, of which at most 12 are questions, in at most 1500 numbers."""
    calls = []
    questions = 0
    while len(calls) < 60:
        house = some_house(dice, dice.randint(1, 5))
        part = house + [some_call(dice, house) for turn in range(dice.randint(1, 30))]
        for call in part[:60 - len(calls)]:
            questions += call[0] in (2, 3, 4, 5)
            too_many = questions > 12 and call[0] in (2, 3, 4, 5)
            calls.append(judge(0, 0, 0) if too_many or len(line(calls)) + len(call) > 1200 else call)
    return calls


class EveryRule(unittest.TestCase):
    def alike(self, calls):
        slow = SlowHouse()
        self.assertEqual(ask(*calls), [slow.answer(call) for call in calls], calls)

    def test_whole_houses(self):
        dice = random.Random(1)
        for turn in range(250):
            many = dice.randint(1, 5)
            asked = [one for state in range(many) for one in (chance(state), cost(state))]
            self.alike(some_house(dice, many) + asked + [likely(), cheap()])

    def test_houses_of_six_states(self):
        dice = random.Random(2)
        for turn in range(40):
            asked = dice.sample(range(6), 2)
            self.alike(some_house(dice, 6) + [chance(asked[0]), cost(asked[0]), cost(asked[1]), likely(), cheap()])

    def test_rules_judged(self):
        dice = random.Random(5)
        for turn in range(300):
            many = dice.randint(1, 6)
            house = some_house(dice, many)
            self.alike(house + [judge(dice.randrange(many), *some_rule(dice, house)) for more in range(20)])

    def test_lines_with_much_that_is_refused(self):
        dice = random.Random(3)
        for turn in range(300):
            calls = []
            for part in range(2):
                calls += some_house(dice, dice.randint(1, 4))[:dice.randint(1, 6)]
                calls += [odd_call(dice) for more in range(4)] + [chance(0), cost(dice.randrange(4)), likely(), cheap()]
            self.alike(calls)

    def test_long_lines_of_all_calls(self):
        dice = random.Random(6)
        for turn in range(100):
            calls = some_line(dice)
            self.assertEqual(len(calls), 60)
            self.assertLessEqual(len(line(calls)), 1500)
            self.assertLessEqual(len([call for call in calls if call[0] in (2, 3, 4, 5)]), 12)
            self.alike(calls)


class NoActBetters(unittest.TestCase):
    """What no way can better, none betters by doing another act first."""

    def values(self, house, many, call):
        told = []
        for state in range(many):
            answer = ask(*house, call(state))[-1]
            told.append(Fraction(answer[1], answer[2]) if answer[0] == 0 else None)
        return told

    def test_full_houses(self):
        dice = random.Random(4)
        for turn in range(150):
            house = [begins(6, [5]), *[some_act(dice, 6, 3) for turn in range(12)]]
            chances = self.values(house, 6, chance)
            costs = self.values(house, 6, cost)
            self.assertEqual([one == 1 for one in chances], [one is not None for one in costs])
            for call in house[1:]:
                state, price, leads, weights = call[1], call[2], call[4::2], call[5::2]
                pairs = list(zip(leads, weights))
                mean = Fraction(sum(chances[lead] * weight for lead, weight in pairs), sum(weights))
                self.assertLessEqual(mean, chances[state])
                if state != 5 and all(chances[lead] == 1 for lead in leads):
                    mean = Fraction(sum(costs[lead] * weight for lead, weight in pairs), sum(weights))
                    self.assertGreaterEqual(price + mean, costs[state])


class RulesJudged(unittest.TestCase):
    """Judged, the likely rule has the best chance from each state, and the cheap rule the best cost."""

    def test_likely(self):
        dice = random.Random(7)
        for turn in range(200):
            many = dice.randint(2, 6)
            house = some_house(dice, many)
            rule = rule_numbers(last(*house, likely()))
            for state in range(many):
                best, judged = ask(*house, chance(state), judge(state, *rule))[-2:]
                self.assertEqual(judged[1:3], best[1:], house)
                self.assertEqual(state in rule[0::2], best[1] > 0 and state not in house[0][3:], house)

    def test_cheap(self):
        dice = random.Random(8)
        for turn in range(200):
            many = dice.randint(2, 6)
            house = some_house(dice, many)
            rule = rule_numbers(last(*house, cheap()))
            for state in range(many):
                best, judged = ask(*house, cost(state), judge(state, *rule))[-2:]
                self.assertEqual(judged, [0, 0, 1] if best == [-6] else [1, 1, 1, *best[1:]], house)
                self.assertEqual(state in rule[0::2], best != [-6] and state not in house[0][3:], house)


if __name__ == "__main__":
    unittest.main()
