"""One house: its facts, what is wanted, its acts, and the calls about it."""

from surehopes.plans import Act, all_up_to, any_up_to, first_told, hopeful_ways
from surehopes.plans import judged, levels_of, rule_of, told_rule, ways_of

BEGINS = 0
ACT = 1
GOAL = 2
SURE = 3
HOPE = 4
FROM = 5
JUDGE = 6

MOST_FACTS = 4
MOST_ACTS = 6
MOST_OUTCOMES = 3


class UnknownCall(ValueError):
    pass


def are_facts(some, facts):
    return some.bit_length() <= facts


def paired(row):
    return [(row[at], row[at + 1]) for at in range(0, len(row), 2)]


def level_and_rule(ways, wanted, serves, state):
    levels = levels_of(ways, wanted, serves)
    if state not in levels:
        return [-6]
    return [levels[state]] + told_rule(ways, rule_of(ways, levels, serves), state)


class House:
    def __init__(self):
        self.facts = 1
        self.wanted = 0
        self.acts = []

    def begins(self, facts, wanted):
        if facts < 1 or facts > MOST_FACTS or not are_facts(wanted, facts):
            return [-1]
        self.facts = facts
        self.wanted = wanted
        self.acts = []
        return [0]

    def act(self, needs, bars, row):
        # That there is no room goes ahead of anything that is wrong with the act itself.
        if len(self.acts) == MOST_ACTS:
            return [-7]
        if len(row) % 2 == 1 or len(row) < 2 or len(row) > 2 * MOST_OUTCOMES:
            return [-1]
        for some in [needs, bars] + row:
            if not are_facts(some, self.facts):
                return [-1]
        self.acts.append(Act(needs, bars, paired(row)))
        return [len(self.acts) - 1]

    def goal(self, wanted):
        if not are_facts(wanted, self.facts):
            return [-1]
        self.wanted = wanted
        return [0]

    def all_ways(self):
        return ways_of(self.acts, 1 << self.facts)

    def sure(self, state):
        if not are_facts(state, self.facts):
            return [-1]
        return level_and_rule(self.all_ways(), self.wanted, all_up_to, state)

    def hope(self, state):
        if not are_facts(state, self.facts):
            return [-1]
        hopeful = hopeful_ways(self.all_ways(), self.wanted)
        return level_and_rule(hopeful, self.wanted, any_up_to, state)

    def from_where(self):
        ways = self.all_ways()
        levels = levels_of(ways, self.wanted, all_up_to)
        hopes_levels = levels_of(hopeful_ways(ways, self.wanted), self.wanted, any_up_to)
        return [len(levels), len(hopes_levels)]

    def judge(self, state, row):
        # Only the state that is asked is held to the house's facts: a rule may tell of any number.
        if len(row) % 2 == 1 or not are_facts(state, self.facts):
            return [-1]
        rule = first_told(paired(row), self.wanted)
        return judged(self.all_ways(), self.wanted, rule, state)


def end_of_call(calls, at):
    number = calls[at]
    if number == FROM:
        return at + 1
    if number == GOAL or number == SURE or number == HOPE:
        return at + 2
    if number == BEGINS:
        return at + 3
    if number == ACT:
        return at + 4 + calls[at + 3]
    if number == JUDGE:
        return at + 3 + calls[at + 2]
    # How long an unknown call is can't be told, so nothing behind it could be read rightly.
    raise UnknownCall(f"there is no call {number}")


def answer_of(house, call):
    number = call[0]
    if number == BEGINS:
        return house.begins(call[1], call[2])
    if number == ACT:
        return house.act(call[1], call[2], call[4:])
    if number == GOAL:
        return house.goal(call[1])
    if number == SURE:
        return house.sure(call[1])
    if number == HOPE:
        return house.hope(call[1])
    if number == FROM:
        return house.from_where()
    return house.judge(call[1], call[3:])


def answers(calls):
    house = House()
    given = []
    at = 0
    while at < len(calls):
        end = end_of_call(calls, at)
        answer = answer_of(house, calls[at:end])
        given.append(len(answer))
        given.extend(answer)
        at = end
    return given
