"""Calls written shortly, answers split call by call, and a house that answers by trying every rule."""

from fractions import Fraction
from itertools import product

from bychancedesk.house import answers

LARGEST = 4294967295


def begins(many, wanted=()):
    return [0, many, len(wanted), *wanted]


def act(state, cost, *leads):
    return [1, state, cost, len(leads), *leads]


def chance(state):
    return [2, state]


def cost(state):
    return [3, state]


def likely():
    return [4]


def cheap():
    return [5]


def judge(state, *rule):
    return [6, state, len(rule), *rule]


def line(calls):
    return [number for call in calls for number in call]


def split(numbers):
    parts = []
    place = 0
    while place < len(numbers):
        behind = place + 1 + numbers[place]
        part = numbers[place + 1:behind]
        assert len(part) == numbers[place] >= 1
        parts.append(part)
        place = behind
    return parts


def ask(*calls):
    """What is answered to each of the calls, which are about one house."""
    return split(answers(line(calls)))


def last(*calls):
    return ask(*calls)[-1]


def rule_numbers(told):
    """What likely or cheap answered, as judge takes a rule."""
    assert len(told) == 1 + 2 * told[0]
    return told[1:]


def solve(rows):
    """The one solution of the equations, by fractions."""
    rows = [[Fraction(number) for number in row] for row in rows]
    size = len(rows)
    for column in range(size):
        pivot = next(place for place in range(column, size) if rows[place][column] != 0)
        rows[column], rows[pivot] = rows[pivot], rows[column]
        rows[column] = [number / rows[column][column] for number in rows[column]]
        for place in range(size):
            if place != column:
                times = rows[place][column]
                rows[place] = [a - times * b for a, b in zip(rows[place], rows[column])]
    return [row[size] for row in rows]


class SlowHouse:
    """Answers as the document's words tell it: the best of all rules, each of them reckoned by itself."""

    def __init__(self):
        self.many, self.wanted, self.acts = 1, [], []
        self.known = {}

    def answer(self, call):
        kind, numbers = call[0], call[1:]
        if kind == 0:
            return self.begins(numbers[0], numbers[2:])
        if kind == 1:
            return self.act(numbers[0], numbers[1], numbers[3:])
        if kind == 4:
            return self.told(self.likely())
        if kind == 5:
            return self.told(self.cheap())
        if numbers[0] >= self.many:
            return [-2]
        if kind == 6:
            return self.judge(numbers[0], numbers[2:])
        if kind == 2:
            return [0, *self.best_chances()[numbers[0]].as_integer_ratio()]
        if self.best_chances()[numbers[0]] != 1:
            return [-6]
        return [0, *self.best_costs()[numbers[0]].as_integer_ratio()]

    def begins(self, many, wanted):
        there = all(state in range(many) for state in wanted)
        if many not in range(1, 7) or wanted != sorted(set(wanted)) or not there:
            return [-1]
        self.many, self.wanted, self.acts = many, wanted, []
        self.known = {}
        return [0]

    def act(self, state, price, leads):
        if len(self.acts) == 12:
            return [-7]
        states, weights = leads[0::2], leads[1::2]
        if (len(leads) % 2 == 1 or state not in range(self.many) or price not in range(1, 101) or not leads
                or states != sorted(set(states)) or not all(one in range(self.many) for one in states)
                or not all(weight in range(1, 21) for weight in weights)):
            return [-1]
        whole = sum(weights)
        self.known = {}
        self.acts.append((state, price, {one: Fraction(weight, whole) for one, weight in zip(states, weights)}))
        return [len(self.acts) - 1]

    def rules(self):
        """Every rule: in each state that isn't wanted one of its acts, or None where it stops."""
        choices = []
        for state in range(self.many):
            own = [] if state in self.wanted else [one for one in self.acts if one[0] == state]
            choices.append([None, *own])
        return product(*choices)

    def coming(self, rule):
        """The states that aren't wanted and from which the rule may come to a wanted one."""
        coming = set(self.wanted)
        for turn in range(self.many):
            coming |= {state for state, one in enumerate(rule) if one and coming & set(one[2])}
        return sorted(coming - set(self.wanted))

    def rule_chances(self, rule):
        coming = self.coming(rule)
        rows = []
        for state in coming:
            shares = rule[state][2]
            row = [(1 if one == state else 0) - shares.get(one, 0) for one in coming]
            rows.append([*row, sum(shares.get(one, 0) for one in self.wanted)])
        found = dict(zip(coming, solve(rows)))
        found.update((state, Fraction(1)) for state in self.wanted)
        return [found.get(state, Fraction(0)) for state in range(self.many)]

    def rule_costs(self, rule, sure):
        """The costs of the rule from the states where it's sure."""
        acting = [state for state in sure if state not in self.wanted]
        rows = []
        for state in acting:
            shares = rule[state][2]
            row = [(1 if one == state else 0) - shares.get(one, 0) for one in acting]
            rows.append([*row, rule[state][1]])
        found = dict(zip(acting, solve(rows)))
        return [found.get(state, Fraction(0)) for state in range(self.many)]

    def best_chances(self):
        if "chances" not in self.known:
            self.known["chances"] = [max(own) for own in zip(*map(self.rule_chances, self.rules()))]
        return self.known["chances"]

    def best_costs(self):
        """Of each state the least cost of the rules that are sure from there, None where there's no such rule."""
        if "costs" not in self.known:
            found = [[] for state in range(self.many)]
            for rule in self.rules():
                chances = self.rule_chances(rule)
                sure = [state for state in range(self.many) if chances[state] == 1]
                costs = self.rule_costs(rule, sure)
                for state in sure:
                    found[state].append(costs[state])
            self.known["costs"] = [min(own, default=None) for own in found]
        return self.known["costs"]

    def likely(self):
        best = self.best_chances()
        good = []
        for number, (state, price, shares) in enumerate(self.acts):
            mean = sum(share * best[one] for one, share in shares.items())
            if mean == best[state] != 0:
                good.append(number)
        levels = {state: 0 for state in self.wanted}
        for level in range(1, self.many + 1):
            for number in good:
                state, price, shares = self.acts[number]
                if state not in levels and any(levels.get(one, level) < level for one in shares):
                    levels[state] = level
        rule = {}
        for number in reversed(good):
            state, price, shares = self.acts[number]
            if levels[state] > 0 and any(levels[state] > levels.get(one, self.many) for one in shares):
                rule[state] = number
        return rule

    def cheap(self):
        chances, costs = self.best_chances(), self.best_costs()
        rule = {}
        for number, (state, price, shares) in reversed(list(enumerate(self.acts))):
            if state not in self.wanted and chances[state] == 1 and all(chances[one] == 1 for one in shares):
                if price + sum(share * costs[one] for one, share in shares.items()) == costs[state]:
                    rule[state] = number
        return rule

    def told(self, rule):
        return [len(rule), *[number for pair in sorted(rule.items()) for number in pair]]

    def judge(self, state, numbers):
        if len(numbers) % 2 == 1:
            return [-1]
        rule = [None] * self.many
        for one in range(self.many):
            told = [number for where, number in zip(numbers[0::2], numbers[1::2]) if where == one]
            if one not in self.wanted and told and told[0] < len(self.acts) and self.acts[told[0]][0] == one:
                rule[one] = self.acts[told[0]]
        chances = self.rule_chances(rule)
        if chances[state] != 1:
            return [0, *chances[state].as_integer_ratio()]
        sure = [one for one in range(self.many) if chances[one] == 1]
        return [1, 1, 1, *self.rule_costs(rule, sure)[state].as_integer_ratio()]
