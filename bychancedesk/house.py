"""A house of states and acts: the best chance and the best cost of coming to a wanted state, told exactly."""

MOST_STATES = 6
MOST_ACTS = 12
MOST_COST = 100
MOST_WEIGHT = 20

WRONG = -1
NO_STATE = -2
NOT_SURE = -6
FULL = -7

BEGINS = 0
ACT = 1
CHANCE = 2
COST = 3


class NoSuchCall(Exception):
    """The list tells a call that the house doesn't have."""


class Act:
    """What may be done in one state; weights tells of each state that it may lead to its weight."""

    def __init__(self, state, price, weights):
        self.state = state
        self.price = price
        self.weights = weights
        self.whole = sum(weights.values())

    def may_lead_to(self, states):
        return any([state in states for state in self.weights])

    def leads_only_to(self, states):
        return all([state in states for state in self.weights])


class Values:
    """Of each state a fraction: its top over the bottom that all share, which is above 0."""

    def __init__(self, tops, bottom):
        self.tops = tops
        self.bottom = bottom


class Search:
    """Looks for the greatest values that the rules of some acts have.

    A way is worth the goal where it comes to a wanted state, and the rate times what its acts cost on the
    average: goal 1 and rate 0 make it the way's chance, goal 0 and rate -1 what it costs, below 0.
    A rule is a dict of states and their acts here.
    """

    def __init__(self, many, wanted, acts, goal, rate):
        self.many = many
        self.wanted = wanted
        self.acts = acts
        self.goal = goal
        self.rate = rate

    def best_values(self):
        """The values of a rule that no act betters in any state, so that no way is worth more.

        Only a strictly better act is taken, so no rule comes twice, and none goes round without end: states
        that are never left again would have to gain on the average by going round, but nothing is gained there.
        """
        rule = self.first_rule()
        values = self.values_of(rule)
        better = self.better_acts(rule, values)
        while len(better) > 0:
            rule.update(better)
            values = self.values_of(rule)
            better = self.better_acts(rule, values)
        return values

    def first_rule(self):
        """Tells, in each state that can come to a wanted one, an act that may lead a step nearer to it."""
        rule = {}
        near = list(self.wanted)
        nearer = self.acts_towards(near)
        while len(nearer) > 0:
            rule.update(nearer)
            near.extend(list(nearer))
            nearer = self.acts_towards(near)
        return rule

    def acts_towards(self, near):
        """For each other state that has one, its first act that may lead to one of the near states."""
        found = {}
        for act in self.acts:
            if act.state not in near and act.state not in found and act.may_lead_to(near):
                found[act.state] = act
        return found

    def values_of(self, rule):
        """The values of the rule, which from each of its states comes to a wanted one with some chance."""
        states = sorted(rule)
        rows = solved([self.equation(rule[state], states) for state in states])
        bottom = 1
        for place, row in enumerate(rows):
            bottom = bottom * row[place]
        tops = [0] * self.many
        for state in self.wanted:
            tops[state] = self.goal * bottom
        for place, row in enumerate(rows):
            tops[states[place]] = row[len(rows)] * (bottom // row[place])
        return Values(tops, bottom)

    def equation(self, act, states):
        """Says of the value of the act's state, times the act's whole weight, what the act makes of it.

        First what stands before the value of each of the states, then what these come to together.
        """
        row = [0 - act.weights.get(state, 0) for state in states]
        place = states.index(act.state)
        row[place] = row[place] + act.whole
        ended = sum([act.weights.get(state, 0) for state in self.wanted])
        row.append(self.goal * ended + self.rate * act.price * act.whole)
        return row

    def better_acts(self, rule, values):
        """For each state of the rule where there is one, an act that is worth more than the state's value."""
        better = {}
        for act in self.acts:
            if act.state in rule and self.worth(act, values) > act.whole * values.tops[act.state]:
                better[act.state] = act
        return better

    def worth(self, act, values):
        """What the act is worth where these values are come to, times its whole weight and their bottom."""
        later = sum([weight * values.tops[state] for state, weight in act.weights.items()])
        return later + self.rate * act.price * act.whole * values.bottom


class House:
    """The states, which of them are wanted, and the acts, in the order in which they were told."""

    def __init__(self):
        self.many = 1
        self.wanted = []
        self.acts = []

    def begins(self, many, wanted):
        if many < 1 or many > MOST_STATES or not rise_below(wanted, many):
            return [WRONG]
        self.many = many
        self.wanted = wanted
        self.acts = []
        return [0]

    def act(self, state, price, leads):
        if len(self.acts) >= MOST_ACTS:
            return [FULL]
        if state >= self.many or price < 1 or price > MOST_COST or not leads_fit(leads, self.many):
            return [WRONG]
        self.acts.append(Act(state, price, dict(zip(leads[0::2], leads[1::2]))))
        return [len(self.acts) - 1]

    def chance(self, state):
        if state >= self.many:
            return [NO_STATE]
        chances = self.best_chances()
        return [0] + lowest_terms(chances.tops[state], chances.bottom)

    def cost(self, state):
        if state >= self.many:
            return [NO_STATE]
        sure = self.sure_states()
        if state not in sure:
            return [NOT_SURE]
        gains = self.best_gains(sure)
        return [0] + lowest_terms(0 - gains.tops[state], gains.bottom)

    def best_chances(self):
        return Search(self.many, self.wanted, self.acts, 1, 0).best_values()

    def sure_states(self):
        chances = self.best_chances()
        return [state for state in range(self.many) if chances.tops[state] == chances.bottom]

    def best_gains(self, sure):
        """The best costs of the sure states, below 0.

        A sure way never does an act that may lead to a state that isn't sure; by all other acts it's sure
        to come to what's wanted as long as each state's act may lead nearer.
        """
        acts = [act for act in self.acts if act.leads_only_to(sure)]
        return Search(self.many, self.wanted, acts, 0, -1).best_values()


class Tape:
    """The list of calls, read from its beginning on."""

    def __init__(self, calls):
        self.calls = calls
        self.place = 0

    def has_more(self):
        return self.place < len(self.calls)

    def number(self):
        self.place = self.place + 1
        return self.calls[self.place - 1]

    def row(self):
        size = self.number()
        self.place = self.place + size
        return self.calls[self.place - size:self.place]


def rise_below(states, many):
    """Whether the states rise and each of them is there."""
    least = 0
    for state in states:
        if state < least or state >= many:
            return False
        least = state + 1
    return True


def leads_fit(leads, many):
    """Whether these are pairs, at least one, of states that rise and of their weights."""
    if len(leads) == 0 or len(leads) % 2 != 0:
        return False
    weights_fit = all([1 <= weight <= MOST_WEIGHT for weight in leads[1::2]])
    return weights_fit and rise_below(leads[0::2], many)


def solved(rows):
    """The same equations, each with its own unknown alone, the first with the first and so on.

    What stands before an equation's own unknown never falls to 0: no equation takes away more than it has
    there, and from each one comes, by those that it takes from, to one that takes away less.
    """
    for place in range(len(rows)):
        chosen = rows[place]
        rows = [row if other == place else without(row, chosen, place) for other, row in enumerate(rows)]
    return rows


def without(row, chosen, place):
    """The row times a number above 0, less so much of the chosen row that nothing is left at the place."""
    return [own * chosen[place] - taken * row[place] for own, taken in zip(row, chosen)]


def lowest_terms(top, bottom):
    common = top
    rest = bottom
    while rest > 0:
        left = common % rest
        common = rest
        rest = left
    return [top // common, bottom // common]


def answer_next(house, tape):
    call = tape.number()
    if call == BEGINS:
        many = tape.number()
        return house.begins(many, tape.row())
    if call == ACT:
        state = tape.number()
        price = tape.number()
        return house.act(state, price, tape.row())
    if call == CHANCE:
        return house.chance(tape.number())
    if call == COST:
        return house.cost(tape.number())
    raise NoSuchCall(f"{call}")


def answers(calls):
    """For each call of the list, in order: how many numbers are answered, then these."""
    house = House()
    tape = Tape(calls)
    told = []
    while tape.has_more():
        answer = answer_next(house, tape)
        told.append(len(answer))
        told.extend(answer)
    return told
