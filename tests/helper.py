"""Calls written shortly, answers split call by call, and a house that answers by trying every rule."""

from fractions import Fraction
from itertools import product

from bychancedesk.house import answers

LARGEST = 4294967295


def begins(many, wanted=()):
    return [0, many, len(wanted), *wanted]


def act(state, cost, *leads):
    return [1, state, cost, len(leads), *leads]


def chance(state):
    return [2, state]


def cost(state):
    return [3, state]


def line(calls):
    return [number for call in calls for number in call]


def split(numbers):
    parts = []
    place = 0
    while place < len(numbers):
        behind = place + 1 + numbers[place]
        part = numbers[place + 1:behind]
        assert len(part) == numbers[place] >= 1
        parts.append(part)
        place = behind
    return parts


def ask(*calls):
    """What is answered to each of the calls, which are about one house."""
    return split(answers(line(calls)))


def last(*calls):
    return ask(*calls)[-1]


def solve(rows):
    """The one solution of the equations, by fractions."""
    rows = [[Fraction(number) for number in row] for row in rows]
    size = len(rows)
    for column in range(size):
        pivot = next(place for place in range(column, size) if rows[place][column] != 0)
        rows[column], rows[pivot] = rows[pivot], rows[column]
        rows[column] = [number / rows[column][column] for number in rows[column]]
        for place in range(size):
            if place != column:
                times = rows[place][column]
                rows[place] = [a - times * b for a, b in zip(rows[place], rows[column])]
    return [row[size] for row in rows]


class SlowHouse:
    """Answers as the document's words tell it: the best of all rules, each of them reckoned by itself."""

    def __init__(self):
        self.many, self.wanted, self.acts = 1, [], []

    def answer(self, call):
        kind = call[0]
        if kind == 0:
            return self.begins(call[1], call[3:])
        if kind == 1:
            return self.act(call[1], call[2], call[4:])
        if call[1] >= self.many:
            return [-2]
        best = self.best_chance(call[1])
        if kind == 2:
            return [0, best.numerator, best.denominator]
        if best != 1:
            return [-6]
        least = self.best_cost(call[1])
        return [0, least.numerator, least.denominator]

    def begins(self, many, wanted):
        there = all(state in range(many) for state in wanted)
        if many not in range(1, 7) or wanted != sorted(set(wanted)) or not there:
            return [-1]
        self.many, self.wanted, self.acts = many, wanted, []
        return [0]

    def act(self, state, price, leads):
        if len(self.acts) == 12:
            return [-7]
        states, weights = leads[0::2], leads[1::2]
        if (len(leads) % 2 == 1 or state not in range(self.many) or price not in range(1, 101) or not leads
                or states != sorted(set(states)) or not all(one in range(self.many) for one in states)
                or not all(weight in range(1, 21) for weight in weights)):
            return [-1]
        whole = sum(weights)
        self.acts.append((state, price, {one: Fraction(weight, whole) for one, weight in zip(states, weights)}))
        return [len(self.acts) - 1]

    def rules(self):
        """Every rule: in each state that isn't wanted one of its acts, or None where it stops."""
        choices = []
        for state in range(self.many):
            own = [] if state in self.wanted else [one for one in self.acts if one[0] == state]
            choices.append([None, *own])
        return product(*choices)

    def coming(self, rule):
        """The states that aren't wanted and from which the rule may come to a wanted one."""
        coming = set(self.wanted)
        for turn in range(self.many):
            coming |= {state for state, one in enumerate(rule) if one and coming & set(one[2])}
        return sorted(coming - set(self.wanted))

    def rule_chances(self, rule):
        coming = self.coming(rule)
        rows = []
        for state in coming:
            shares = rule[state][2]
            row = [(1 if one == state else 0) - shares.get(one, 0) for one in coming]
            rows.append([*row, sum(shares.get(one, 0) for one in self.wanted)])
        found = dict(zip(coming, solve(rows)))
        found.update((state, Fraction(1)) for state in self.wanted)
        return [found.get(state, Fraction(0)) for state in range(self.many)]

    def rule_costs(self, rule, sure):
        """The costs of the rule from the states where it's sure."""
        acting = [state for state in sure if state not in self.wanted]
        rows = []
        for state in acting:
            shares = rule[state][2]
            row = [(1 if one == state else 0) - shares.get(one, 0) for one in acting]
            rows.append([*row, rule[state][1]])
        found = dict(zip(acting, solve(rows)))
        return [found.get(state, Fraction(0)) for state in range(self.many)]

    def best_chance(self, state):
        return max(self.rule_chances(rule)[state] for rule in self.rules())

    def best_cost(self, state):
        costs = []
        for rule in self.rules():
            chances = self.rule_chances(rule)
            if chances[state] == 1:
                sure = [one for one in range(self.many) if chances[one] == 1]
                costs.append(self.rule_costs(rule, sure)[state])
        return min(costs)
