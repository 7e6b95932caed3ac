"""A house of states and acts: how likely a wanted state is come to at best, what it costs at least, and by what rule.

All of it is told exactly, as fractions of whole numbers.
"""

MOST_STATES = 6
MOST_ACTS = 12
MOST_COST = 100
MOST_WEIGHT = 20

WRONG = -1
NO_STATE = -2
NOT_SURE = -6
FULL = -7

BEGINS = 0
ACT = 1
CHANCE = 2
COST = 3
LIKELY = 4
CHEAP = 5
JUDGE = 6


class NoSuchCall(Exception):
    """The list tells a call that the house doesn't have."""


class Act:
    """What may be done in one state; weights tells of each state that it may lead to its weight."""

    def __init__(self, number, state, price, weights):
        self.number = number
        self.state = state
        self.price = price
        self.weights = weights
        self.whole = sum(weights.values())

    def may_lead_to(self, states):
        return any([state in states for state in self.weights])

    def leads_only_to(self, states):
        return all([state in states for state in self.weights])


class Values:
    """Of each state a fraction: its top over the bottom that all share, which is above 0."""

    def __init__(self, tops, bottom):
        self.tops = tops
        self.bottom = bottom


class Search:
    """Looks for the greatest values that the rules of some acts have.

    A way is worth the goal where it comes to a wanted state, and the rate times what its acts cost on the
    average: goal 1 and rate 0 make it the way's chance, goal 0 and rate -1 what it costs, below 0.
    A rule is a dict of states and their acts here.
    """

    def __init__(self, many, wanted, acts, goal, rate):
        self.many = many
        self.wanted = wanted
        self.acts = acts
        self.goal = goal
        self.rate = rate

    def best_values(self):
        """The values of a rule that no act betters in any state, so that no way is worth more.

        Only a strictly better act is taken, so no rule comes twice, and none goes round without end: states
        that are never left again would have to gain on the average by going round, but nothing is gained there.
        """
        rule = self.first_rule()
        values = self.values_of(rule)
        better = self.better_acts(rule, values)
        while len(better) > 0:
            rule.update(better)
            values = self.values_of(rule)
            better = self.better_acts(rule, values)
        return values

    def first_rule(self):
        """Tells, in each state that can come to a wanted one, an act that may lead a step nearer to it."""
        rule = {}
        near = list(self.wanted)
        nearer = self.acts_towards(near)
        while len(nearer) > 0:
            rule.update(nearer)
            near.extend(list(nearer))
            nearer = self.acts_towards(near)
        return rule

    def acts_towards(self, near):
        """For each other state that has one, its first act that may lead to one of the near states."""
        found = {}
        for act in self.acts:
            if act.state not in near and act.state not in found and act.may_lead_to(near):
                found[act.state] = act
        return found

    def values_of(self, rule):
        """The values of the rule, which from each of its states comes to a wanted one with some chance."""
        states = sorted(rule)
        rows = solved([self.equation(rule[state], states) for state in states])
        bottom = 1
        for place, row in enumerate(rows):
            bottom = bottom * row[place]
        tops = [0] * self.many
        for state in self.wanted:
            tops[state] = self.goal * bottom
        for place, row in enumerate(rows):
            tops[states[place]] = row[len(rows)] * (bottom // row[place])
        return Values(tops, bottom)

    def equation(self, act, states):
        """Says of the value of the act's state, times the act's whole weight, what the act makes of it.

        First what stands before the value of each of the states, then what these come to together.
        """
        row = [0 - act.weights.get(state, 0) for state in states]
        place = states.index(act.state)
        row[place] = row[place] + act.whole
        ended = sum([act.weights.get(state, 0) for state in self.wanted])
        row.append(self.goal * ended + self.rate * act.price * act.whole)
        return row

    def better_acts(self, rule, values):
        """For each state of the rule where there is one, an act that is worth more than the state's value."""
        better = {}
        for act in self.acts:
            if act.state in rule and self.worth(act, values) > act.whole * values.tops[act.state]:
                better[act.state] = act
        return better

    def best_acts(self, values):
        """The acts, of states that aren't wanted, that are worth just what their state is."""
        acting = [act for act in self.acts if act.state not in self.wanted]
        return [act for act in acting if self.worth(act, values) == act.whole * values.tops[act.state]]

    def worth(self, act, values):
        """What the act is worth where these values are come to, times its whole weight and their bottom."""
        later = sum([weight * values.tops[state] for state, weight in act.weights.items()])
        return later + self.rate * act.price * act.whole * values.bottom


class House:
    """The states, which of them are wanted, and the acts, in the order in which they were told."""

    def __init__(self):
        self.many = 1
        self.wanted = []
        self.acts = []

    def begins(self, many, wanted):
        if many < 1 or many > MOST_STATES or not rise_below(wanted, many):
            return [WRONG]
        self.many = many
        self.wanted = wanted
        self.acts = []
        return [0]

    def act(self, state, price, leads):
        if len(self.acts) >= MOST_ACTS:
            return [FULL]
        if state >= self.many or price < 1 or price > MOST_COST or not leads_fit(leads, self.many):
            return [WRONG]
        number = len(self.acts)
        self.acts.append(Act(number, state, price, dict(zip(leads[0::2], leads[1::2]))))
        return [number]

    def chance(self, state):
        if state >= self.many:
            return [NO_STATE]
        return [0] + self.best_chance(self.acts, state)

    def cost(self, state):
        if state >= self.many:
            return [NO_STATE]
        if self.best_chance(self.acts, state) != [1, 1]:
            return [NOT_SURE]
        return [0] + self.best_cost(self.acts, state)

    def likely(self):
        """Among the acts that are as good as can be, a rule that goes nearer level by level.

        A state of the best chance 0 gets no act by it, since none of its acts may lead to a state with a level.
        """
        search = self.chance_search(self.acts)
        good = search.best_acts(search.best_values())
        return told_rule(self.chance_search(good).first_rule())

    def cheap(self):
        search = self.cost_search(self.acts)
        rule = {}
        for act in search.best_acts(search.best_values()):
            rule.setdefault(act.state, act)
        return told_rule(rule)

    def judge(self, state, rule):
        """The best of a house that has the rule's acts alone: there a way can only go by the rule, or stop."""
        if state >= self.many:
            return [NO_STATE]
        if len(rule) % 2 != 0:
            return [WRONG]
        acts = self.acts_of(rule)
        likelihood = self.best_chance(acts, state)
        if likelihood != [1, 1]:
            return [0] + likelihood
        return [1] + likelihood + self.best_cost(acts, state)

    def acts_of(self, rule):
        """The acts that the rule does; what else it tells is no act of that state, or told too late."""
        first = {}
        for state, number in zip(rule[0::2], rule[1::2]):
            first.setdefault(state, number)
        return [act for act in self.acts if first.get(act.state) == act.number]

    def best_chance(self, acts, state):
        chances = self.chance_search(acts).best_values()
        return lowest_terms(chances.tops[state], chances.bottom)

    def best_cost(self, acts, state):
        """The best cost by these acts from a state from which they can make it sure."""
        gains = self.cost_search(acts).best_values()
        return lowest_terms(0 - gains.tops[state], gains.bottom)

    def chance_search(self, acts):
        return Search(self.many, self.wanted, acts, 1, 0)

    def cost_search(self, acts):
        """Looks for the best costs of the sure states, below 0.

        A sure way never does an act that may lead to a state that isn't sure; by all other acts it's sure
        to come to what's wanted as long as each state's act may lead nearer.
        """
        chances = self.chance_search(acts).best_values()
        sure = [state for state in range(self.many) if chances.tops[state] == chances.bottom]
        safe = [act for act in acts if act.leads_only_to(sure)]
        return Search(self.many, self.wanted, safe, 0, -1)


class Tape:
    """The list of calls, read from its beginning on."""

    def __init__(self, calls):
        self.calls = calls
        self.place = 0

    def has_more(self):
        return self.place < len(self.calls)

    def take(self):
        self.place = self.place + 1
        return self.calls[self.place - 1]

    def take_row(self):
        size = self.take()
        self.place = self.place + size
        return self.calls[self.place - size:self.place]


def rise_below(states, many):
    """Whether the states rise and each of them is there."""
    least = 0
    for state in states:
        if state < least or state >= many:
            return False
        least = state + 1
    return True


def leads_fit(leads, many):
    """Whether these are pairs, at least one, of states that rise and of their weights."""
    if len(leads) == 0 or len(leads) % 2 != 0:
        return False
    weights_fit = all([1 <= weight <= MOST_WEIGHT for weight in leads[1::2]])
    return weights_fit and rise_below(leads[0::2], many)


def solved(rows):
    """The same equations, each with its own unknown alone, the first with the first and so on.

    What stands before an equation's own unknown never falls to 0: no equation takes away more than it has
    there, and from each one comes, by those that it takes from, to one that takes away less.
    """
    for place in range(len(rows)):
        chosen = rows[place]
        rows = [row if other == place else without(row, chosen, place) for other, row in enumerate(rows)]
    return rows


def without(row, chosen, place):
    """The row times a number above 0, less so much of the chosen row that nothing is left at the place."""
    return [own * chosen[place] - taken * row[place] for own, taken in zip(row, chosen)]


def lowest_terms(top, bottom):
    common = top
    rest = bottom
    while rest > 0:
        left = common % rest
        common = rest
        rest = left
    return [top // common, bottom // common]


def told_rule(rule):
    """For how many states the rule tells an act, then each of them and the act's number."""
    told = [len(rule)]
    for state in sorted(rule):
        told.append(state)
        told.append(rule[state].number)
    return told


def answer_next(house, tape):
    call = tape.take()
    if call == BEGINS:
        many = tape.take()
        return house.begins(many, tape.take_row())
    if call == ACT:
        state = tape.take()
        price = tape.take()
        return house.act(state, price, tape.take_row())
    if call == CHANCE:
        return house.chance(tape.take())
    if call == COST:
        return house.cost(tape.take())
    if call == LIKELY:
        return house.likely()
    if call == CHEAP:
        return house.cheap()
    if call == JUDGE:
        state = tape.take()
        return house.judge(state, tape.take_row())
    raise NoSuchCall(f"{call}")


def answers(calls):
    """For each call of the list, in order: how many numbers are answered, then these."""
    house = House()
    tape = Tape(calls)
    told = []
    while tape.has_more():
        answer = answer_next(house, tape)
        told.append(len(answer))
        told.extend(answer)
    return told
