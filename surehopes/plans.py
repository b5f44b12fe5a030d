"""Acts, the levels of states, and the rules that are told of them."""


class Act:
    def __init__(self, needs, bars, outcomes):
        self.needs = needs
        self.bars = bars
        self.outcomes = outcomes

    def may_be_done(self, state):
        return state & self.needs == self.needs and state & self.bars == 0

    def leads_to(self, state):
        # What is brought goes last: a fact that is both taken away and brought is so.
        return [(state & ~takes) | brings for brings, takes in self.outcomes]


def is_as_wanted(state, wanted):
    return state & wanted == wanted


def all_up_to(states, levels, top):
    for state in states:
        if state not in levels or levels[state] > top:
            return False
    return True


def lowest_sure_act(acts, levels, state, top):
    for number, act in enumerate(acts):
        if act.may_be_done(state) and all_up_to(act.leads_to(state), levels, top):
            return number
    return None


def states_above(acts, levels, how_many, top):
    return [
        state
        for state in range(how_many)
        if state not in levels and lowest_sure_act(acts, levels, state, top) is not None
    ]


def sure_levels(acts, wanted, how_many):
    levels = {}
    for state in range(how_many):
        if is_as_wanted(state, wanted):
            levels[state] = 0
    # No level is left out below one that there is, so there are no more levels than states.
    for top in range(how_many):
        found = states_above(acts, levels, how_many, top)
        if len(found) == 0:
            break
        for state in found:
            levels[state] = top + 1
    return levels


def sure_rule(acts, levels):
    rule = {}
    for state in sorted(levels):
        if levels[state] > 0:
            rule[state] = lowest_sure_act(acts, levels, state, levels[state] - 1)
    return rule


def come_to(acts, rule, start):
    # The rule tells nothing for a state as wanted, so the walk ends there by itself.
    seen = {}
    waiting = [start]
    while len(waiting) > 0:
        state = waiting.pop()
        if state not in seen:
            seen[state] = True
            if state in rule:
                waiting.extend(acts[rule[state]].leads_to(state))
    return sorted(seen)


def told_rule(acts, rule, start):
    told = []
    for state in come_to(acts, rule, start):
        if state in rule:
            told.extend([state, rule[state]])
    return told
