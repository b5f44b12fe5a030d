"""Acts, the ways that they give, the levels of states, and the rules that are told or judged.

Ways are a dict: for each state a dict that has, by the number of each act that one may take there,
rising, the states that this act leads to.
"""


class Act:
    def __init__(self, needs, bars, outcomes):
        self.needs = needs
        self.bars = bars
        self.outcomes = outcomes

    def may_be_done(self, state):
        return state & self.needs == self.needs and state & self.bars == 0

    def leads_to(self, state):
        # What is brought goes last: a fact that is both taken away and brought is so.
        return [(state & ~takes) | brings for brings, takes in self.outcomes]


def is_as_wanted(state, wanted):
    return state & wanted == wanted


def ways_in(acts, state):
    ways_here = {}
    for number, act in enumerate(acts):
        if act.may_be_done(state):
            ways_here[number] = act.leads_to(state)
    return ways_here


def ways_of(acts, how_many):
    ways = {}
    for state in range(how_many):
        ways[state] = ways_in(acts, state)
    return ways


def is_up_to(state, levels, top):
    return state in levels and levels[state] <= top


def all_up_to(states, levels, top):
    return all([is_up_to(state, levels, top) for state in states])


def any_up_to(states, levels, top):
    return any([is_up_to(state, levels, top) for state in states])


def lowest_act(ways_here, levels, top, serves):
    for number, states in ways_here.items():
        if serves(states, levels, top):
            return number
    return None


def states_above(ways, levels, top, serves):
    return [
        state
        for state in ways
        if state not in levels and lowest_act(ways[state], levels, top, serves) is not None
    ]


def levels_of(ways, wanted, serves):
    levels = {}
    top = 0
    found = [state for state in ways if is_as_wanted(state, wanted)]
    while len(found) > 0:
        for state in found:
            levels[state] = top
        found = states_above(ways, levels, top, serves)
        top += 1
    return levels


def rule_of(ways, levels, serves):
    rule = {}
    for state, level in levels.items():
        if level > 0:
            rule[state] = lowest_act(ways[state], levels, level - 1, serves)
    return rule


def ways_left(ways_here, kept):
    left = {}
    for number, states in ways_here.items():
        if all([state in kept for state in states]):
            left[number] = states
    return left


def ways_within(ways, kept):
    within = {}
    for state in kept:
        within[state] = ways_left(ways[state], kept)
    return within


def hopeful_ways(ways, wanted):
    # A state that falls out takes away the acts that lead to it, so others may fall out behind it.
    within = ways
    kept = levels_of(within, wanted, any_up_to)
    while len(kept) < len(within):
        within = ways_within(within, kept)
        kept = levels_of(within, wanted, any_up_to)
    return within


def first_told(pairs, wanted):
    # By a rule one goes no further from a state as wanted, so what it tells for one is left out.
    rule = {}
    for state, number in pairs:
        if state not in rule and not is_as_wanted(state, wanted):
            rule[state] = number
    return rule


def ways_by(ways, rule):
    ruled = {}
    for state, ways_here in ways.items():
        number = rule.get(state)
        ruled[state] = {number: ways_here[number]} if number in ways_here else {}
    return ruled


def come_to(ways, start):
    seen = {}
    waiting = [start]
    while len(waiting) > 0:
        state = waiting.pop()
        if state not in seen:
            seen[state] = True
            for states in ways[state].values():
                waiting.extend(states)
    return sorted(seen)


def told_rule(ways, rule, start):
    told = []
    for state in come_to(ways_by(ways, rule), start):
        if state in rule:
            told.extend([state, rule[state]])
    return told


def lowest_stuck(ruled, states, wanted):
    for state in states:
        if not is_as_wanted(state, wanted) and len(ruled[state]) == 0:
            return state
    return None


def lowest_without(levels, states):
    for state in states:
        if state not in levels:
            return state
    return None


def judged(ways, wanted, rule, start):
    ruled = ways_by(ways, rule)
    states = come_to(ruled, start)
    stuck = lowest_stuck(ruled, states, wanted)
    if stuck is not None:
        return [3, stuck]
    lost = lowest_without(levels_of(ruled, wanted, any_up_to), states)
    if lost is not None:
        return [0, lost]
    # With one act in each state its level is the greatest number of steps that it may take.
    steps = levels_of(ruled, wanted, all_up_to)
    if start in steps:
        return [2, steps[start]]
    return [1]
