"""How the tests write the calls of a line and read what is answered of each."""

from surehopes.house import answers

LARGEST = 4294967295


def begins(facts, wanted):
    return [0, facts, wanted]


def act(needs, bars, *outcomes):
    row = [number for outcome in outcomes for number in outcome]
    return [1, needs, bars, len(row)] + row


def goal(wanted):
    return [2, wanted]


def sure(state):
    return [3, state]


def hope(state):
    return [4, state]


def from_where():
    return [5]


def judge(state, *pairs):
    row = [number for pair in pairs for number in pair]
    return [6, state, len(row)] + row


def joined(calls):
    return [number for call in calls for number in call]


def split(given):
    parts = []
    at = 0
    while at < len(given):
        parts.append(given[at + 1:at + 1 + given[at]])
        at += 1 + given[at]
    return parts


def ask(*calls):
    return split(answers(joined(calls)))


def last(*calls):
    return ask(*calls)[-1]
