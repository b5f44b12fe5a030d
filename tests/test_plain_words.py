"""Houses by chance, answered a second time straight by the document's words, on sets of facts."""

import itertools
import random
import unittest

from lines import LARGEST, act, ask, begins, from_where, hope, judge, sure


def bits(number):
    return frozenset(fact for fact in range(4) if number // 2 ** fact % 2)


def worth(state):
    return sum(2 ** fact for fact in state)


def behind(one, state):
    """What the act leads to from the state; None if it may not be done there."""
    needs, bars, outcomes = one
    if any(fact not in state for fact in bits(needs)) or any(fact in state for fact in bits(bars)):
        return None
    return {frozenset(state - bits(takes) | bits(brings)) for brings, takes in outcomes}


class PlainHouse:
    def __init__(self, facts, wanted, acts):
        self.states = [bits(number) for number in range(2 ** facts)]
        self.good = {state for state in self.states if bits(wanted) <= state}
        self.acts = acts
        self.leads = {(n, s): behind(one, s) for s in self.states for n, one in enumerate(acts)}

    def lowest(self, state, lower, serves):
        """serves(what an act leads to, the states of lower levels) tells if the act will do."""
        for number in range(len(self.acts)):
            led = self.leads[number, state]
            if led is not None and serves(led, lower):
                return number
        return None

    def levels(self, serves):
        level = {state: 0 for state in self.good}
        for n in range(len(self.states)):
            lower = {state for state in level if level[state] <= n}
            for state in self.states:
                if state not in lower and self.lowest(state, lower, serves) is not None:
                    level[state] = n + 1
        return level

    def told(self, start, level, serves):
        if start not in level:
            return [-6]
        told = {}
        waiting = [start]
        while waiting:
            state = waiting.pop()
            if state not in self.good and worth(state) not in told:
                number = self.lowest(state, {s for s in level if level[s] < level[state]}, serves)
                told[worth(state)] = number
                waiting += self.leads[number, state]
        return [level[start]] + [number for row in sorted(told.items()) for number in row]

    def everywhere(self, serves):
        level = self.levels(serves)
        return [self.told(state, level, serves) for state in self.states]

    def sure(self):
        return self.everywhere(lambda led, lower: led <= lower)

    def hope(self):
        kept = self.largest_set()
        return self.everywhere(lambda led, lower: led <= kept and bool(led & lower))

    def from_where(self):
        return [sum(answer != [-6] for answer in every) for every in (self.sure(), self.hope())]

    def can_come(self, state, kept):
        """If from the state one can come to one as wanted by acts that lead only to states kept."""
        come = set()
        more = {state}
        while more:
            come |= more
            led = [self.leads[number, one] for number in range(len(self.acts)) for one in more]
            more = set().union(*[some for some in led if some is not None and some <= kept]) - come
        return bool(come & self.good)

    def holds_together(self, kept):
        return all(self.can_come(state, kept) for state in kept)

    def largest_set(self):
        kept = set(self.states)
        while not self.holds_together(kept):
            kept.remove(next(state for state in kept if not self.can_come(state, kept)))
        return kept

    def largest_set_of_all(self):
        """The same by trying every set there is."""
        others = [state for state in self.states if state not in self.good]
        some = itertools.chain.from_iterable(itertools.combinations(others, many) for many in range(len(others) + 1))
        sets = (self.good.union(one) for one in some)
        return max((kept for kept in sets if self.holds_together(kept)), key=len)

    def judge(self, start, pairs):
        rule = {bits(state): number for state, number in reversed(pairs) if state < len(self.states)}

        def step(state):
            if state in self.good or rule.get(state, len(self.acts)) >= len(self.acts):
                return None
            return self.leads[rule[state], state]

        def come_to(state):
            come = {state}
            for _ in self.states:
                come = come.union(*[led for led in map(step, come) if led is not None])
            return come

        stuck = [worth(state) for state in come_to(start) if state not in self.good and step(state) is None]
        if stuck:
            return [3, min(stuck)]
        lost = [worth(state) for state in come_to(start) if not come_to(state) & self.good]
        if lost:
            return [0, min(lost)]
        steps = 0
        may_be_in = {start} - self.good
        # Who is still on the way after as many steps as there are states has been in one twice.
        while may_be_in and steps <= len(self.states):
            may_be_in = set().union(*map(step, may_be_in)) - self.good
            steps += 1
        return [1] if may_be_in else [2, steps]


def some_act(chance, every):
    def few(rarely):
        some = every
        for _ in range(rarely):
            some &= chance.randint(0, every)
        return some

    # Outcomes that change little make for ways of several steps.
    rarely = chance.choice((2, 3, 4))
    outcomes = [(few(rarely), few(rarely)) for _ in range(chance.choice((1, 1, 2, 2, 3)))]
    return few(2), few(2), outcomes


def some_house(chance, facts):
    every = 2 ** facts - 1
    wanted = chance.randint(0, every)
    acts = [some_act(chance, every) for _ in range(chance.choice((0, 1, 2, 3, 4, 5, 5, 6, 6, 6)))]
    calls = [begins(facts, wanted)] + [act(needs, bars, *outcomes) for needs, bars, outcomes in acts]
    return PlainHouse(facts, wanted, acts), calls


def pairs_of(row):
    return list(zip(row[::2], row[1::2]))


def some_rule(chance, house):
    """Mostly acts that may be done, in half of the rules such as serve, and now and then something else."""
    served = {}
    if chance.random() < 0.5:
        served = dict(pair for told in house.hope() for pair in pairs_of(told[1:]))
    pairs = []
    for state in house.states:
        doable = [number for number in range(len(house.acts)) if house.leads[number, state] is not None]
        if doable and chance.random() < 0.95:
            pairs.append((worth(state), served.get(worth(state), chance.choice(doable))))
    chance.shuffle(pairs)
    for _ in range(chance.choice((0, 0, 1, 2, 4))):
        odd = (chance.choice((0, 1, 5, 17, LARGEST)), chance.choice((0, 3, 6, LARGEST)))
        pairs.insert(chance.randint(0, len(pairs)), odd)
    # A rule has at most 40 numbers.
    return pairs[:20]


class AgainstThePlainWords(unittest.TestCase):
    def test_sure(self):
        chance = random.Random(20261118)
        deepest = 0
        for turn in range(1000):
            house, calls = some_house(chance, chance.choice((1, 2, 3, 3, 4, 4, 4)))
            given = ask(*calls, *[sure(worth(state)) for state in house.states])[len(calls):]
            with self.subTest(turn=turn):
                self.assertEqual(given, house.sure())
            deepest = max(deepest, max(answer[0] for answer in given))
        # Where no house had several levels, the comparison would tell little.
        self.assertGreaterEqual(deepest, 3)

    def test_hope_and_from(self):
        chance = random.Random(1118)
        deepest = 0
        apart = 0
        for turn in range(600):
            house, calls = some_house(chance, chance.choice((1, 2, 3, 3, 4, 4)))
            given = ask(*calls, *[hope(worth(state)) for state in house.states], from_where())[len(calls):]
            with self.subTest(turn=turn):
                self.assertEqual(given, house.hope() + [house.from_where()])
            deepest = max(deepest, max(answer[0] for answer in given[:-1]))
            apart += given[-1][0] < given[-1][1] < len(house.states)
        self.assertGreaterEqual(deepest, 3)
        self.assertGreaterEqual(apart, 10)

    def test_the_set_of_hope_is_the_largest_of_all(self):
        chance = random.Random(41)
        for turn in range(150):
            house, calls = some_house(chance, chance.choice((1, 2, 2, 3)))
            given = ask(*calls, *[hope(worth(state)) for state in house.states])[len(calls):]
            with self.subTest(turn=turn):
                kept = {state for state, answer in zip(house.states, given) if answer != [-6]}
                self.assertEqual(kept, house.largest_set_of_all())

    def test_judge(self):
        chance = random.Random(61)
        seen = {3: 0, 0: 0, 2: 0, 1: 0}
        for turn in range(2500):
            house, calls = some_house(chance, chance.choice((1, 2, 3, 3, 4, 4)))
            pairs = some_rule(chance, house)
            given = ask(*calls, *[judge(worth(state), *pairs) for state in house.states])[len(calls):]
            with self.subTest(turn=turn):
                self.assertEqual(given, [house.judge(state, pairs) for state in house.states])
            for state, answer in zip(house.states, given):
                if state not in house.good:
                    seen[answer[0]] += 1
        self.assertGreaterEqual(min(seen.values()), 50, seen)


class ToldRulesAreJudged(unittest.TestCase):
    def test_the_sure_rule_takes_as_many_steps_as_the_level_tells(self):
        for house, calls in self.houses(71):
            for state in map(worth, house.states):
                told = ask(*calls, sure(state))[-1]
                if told != [-6]:
                    self.assertEqual(ask(*calls, judge(state, *pairs_of(told[1:])))[-1], [2, told[0]])

    def test_by_the_rule_of_hope_one_is_never_lost(self):
        for house, calls in self.houses(72):
            for state in map(worth, house.states):
                told = ask(*calls, hope(state))[-1]
                if told != [-6]:
                    self.assertIn(ask(*calls, judge(state, *pairs_of(told[1:])))[-1][0], (1, 2))

    def test_who_is_sure_has_hope(self):
        for house, calls in self.houses(73):
            for state in map(worth, house.states):
                by_sure, by_hope = ask(*calls, sure(state), hope(state))[-2:]
                if by_sure != [-6]:
                    self.assertIn(by_hope[0], range(by_sure[0] + 1))

    def houses(self, seed):
        chance = random.Random(seed)
        return [some_house(chance, chance.choice((2, 3, 4))) for _ in range(60)]


if __name__ == "__main__":
    unittest.main()
