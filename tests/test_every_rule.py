"""Made-up lines, the same each time, answered as well by trying every rule that there is."""

import random
import unittest
from fractions import Fraction

from tests.helper import LARGEST, SlowHouse, act, ask, begins, chance, cost

ODD_NUMBERS = (0, 1, 2, 5, 6, 7, 20, 21, 100, 101, LARGEST)


def some_act(dice, many, sparse):
    states = sorted(dice.sample(range(many), dice.randint(1, min(many, sparse))))
    leads = [number for state in states for number in (state, dice.choice((1, 1, 2, 3, 7, 20)))]
    return act(dice.randrange(many), dice.choice((1, 2, 3, 10, 50, 100)), *leads)


def some_house(dice, many):
    wanted = sorted(dice.sample(range(many), dice.choice((0, 1, 1, 1, min(2, many)))))
    sparse = dice.choice((1, 2, 2, 3, 6))
    return [begins(many, wanted), *[some_act(dice, many, sparse) for turn in range(dice.randint(1, 12))]]


def odd_call(dice):
    row = [dice.choice(ODD_NUMBERS) for turn in range(dice.choice((0, 1, 2, 3, 4, 20)))]
    kind = dice.randrange(3)
    if kind == 0:
        return begins(dice.choice(ODD_NUMBERS), row)
    if kind == 1:
        return act(dice.choice(ODD_NUMBERS), dice.choice(ODD_NUMBERS), *row)
    return dice.choice((chance, cost))(dice.choice(ODD_NUMBERS))


class EveryRule(unittest.TestCase):
    def alike(self, calls):
        slow = SlowHouse()
        self.assertEqual(ask(*calls), [slow.answer(call) for call in calls], calls)

    def test_whole_houses(self):
        dice = random.Random(1)
        for turn in range(250):
            many = dice.randint(1, 5)
            asked = [one for state in range(many) for one in (chance(state), cost(state))]
            self.alike(some_house(dice, many) + asked)

    def test_houses_of_six_states(self):
        dice = random.Random(2)
        for turn in range(40):
            asked = dice.sample(range(6), 2)
            self.alike(some_house(dice, 6) + [chance(asked[0]), cost(asked[0]), cost(asked[1])])

    def test_lines_with_much_that_is_refused(self):
        dice = random.Random(3)
        for turn in range(300):
            calls = []
            for part in range(2):
                calls += some_house(dice, dice.randint(1, 4))[:dice.randint(1, 6)]
                calls += [odd_call(dice) for more in range(4)] + [chance(0), cost(dice.randrange(4))]
            self.alike(calls)


class NoActBetters(unittest.TestCase):
    """What no way can better, none betters by doing another act first."""

    def values(self, house, many, call):
        told = []
        for state in range(many):
            answer = ask(*house, call(state))[-1]
            told.append(Fraction(answer[1], answer[2]) if answer[0] == 0 else None)
        return told

    def test_full_houses(self):
        dice = random.Random(4)
        for turn in range(150):
            house = [begins(6, [5]), *[some_act(dice, 6, 3) for turn in range(12)]]
            chances = self.values(house, 6, chance)
            costs = self.values(house, 6, cost)
            self.assertEqual([one == 1 for one in chances], [one is not None for one in costs])
            for call in house[1:]:
                state, price, leads, weights = call[1], call[2], call[4::2], call[5::2]
                pairs = list(zip(leads, weights))
                mean = Fraction(sum(chances[lead] * weight for lead, weight in pairs), sum(weights))
                self.assertLessEqual(mean, chances[state])
                if state != 5 and all(chances[lead] == 1 for lead in leads):
                    mean = Fraction(sum(costs[lead] * weight for lead, weight in pairs), sum(weights))
                    self.assertGreaterEqual(price + mean, costs[state])


if __name__ == "__main__":
    unittest.main()
