"""One house: its facts, what is wanted, its acts, and the calls about it."""

from surehopes.plans import Act, sure_levels, sure_rule, told_rule

BEGINS = 0
ACT = 1
GOAL = 2
SURE = 3

MOST_FACTS = 4
MOST_ACTS = 6
MOST_OUTCOMES = 3


class UnknownCall(ValueError):
    pass


def are_facts(some, facts):
    return some.bit_length() <= facts


def paired(row):
    return [(row[at], row[at + 1]) for at in range(0, len(row), 2)]


class House:
    def __init__(self):
        self.facts = 1
        self.wanted = 0
        self.acts = []

    def begins(self, facts, wanted):
        if facts < 1 or facts > MOST_FACTS or not are_facts(wanted, facts):
            return [-1]
        self.facts = facts
        self.wanted = wanted
        self.acts = []
        return [0]

    def act(self, needs, bars, row):
        # That there is no room goes ahead of anything that is wrong with the act itself.
        if len(self.acts) == MOST_ACTS:
            return [-7]
        if len(row) % 2 == 1 or len(row) < 2 or len(row) > 2 * MOST_OUTCOMES:
            return [-1]
        for some in [needs, bars] + row:
            if not are_facts(some, self.facts):
                return [-1]
        self.acts.append(Act(needs, bars, paired(row)))
        return [len(self.acts) - 1]

    def goal(self, wanted):
        if not are_facts(wanted, self.facts):
            return [-1]
        self.wanted = wanted
        return [0]

    def sure(self, state):
        if not are_facts(state, self.facts):
            return [-1]
        levels = sure_levels(self.acts, self.wanted, 1 << self.facts)
        if state not in levels:
            return [-6]
        rule = sure_rule(self.acts, levels)
        return [levels[state]] + told_rule(self.acts, rule, state)


def end_of_call(calls, at):
    number = calls[at]
    if number == BEGINS:
        return at + 3
    if number == ACT:
        return at + 4 + calls[at + 3]
    if number == GOAL or number == SURE:
        return at + 2
    # How long an unknown call is can't be told, so nothing behind it could be read rightly.
    raise UnknownCall(f"there is no call {number}")


def answer_of(house, call):
    number = call[0]
    if number == BEGINS:
        return house.begins(call[1], call[2])
    if number == ACT:
        return house.act(call[1], call[2], call[4:])
    if number == GOAL:
        return house.goal(call[1])
    return house.sure(call[1])


def answers(calls):
    house = House()
    given = []
    at = 0
    while at < len(calls):
        end = end_of_call(calls, at)
        answer = answer_of(house, calls[at:end])
        given.append(len(answer))
        given.extend(answer)
        at = end
    return given
