import unittest

from lines import LARGEST, act, ask, begins, goal, last, sure


class Levels(unittest.TestCase):
    def test_as_wanted_has_no_rule_behind_it(self):
        calls = [begins(2, 2), act(0, 0, (2, 0)), sure(2), sure(3)]
        self.assertEqual(ask(*calls)[2:], [[0], [0]])

    def test_nothing_wanted_is_as_wanted_everywhere(self):
        self.assertEqual(ask(begins(2, 0), *[sure(state) for state in range(4)])[1:], [[0]] * 4)

    def test_all_wanted_facts_have_to_be_so(self):
        self.assertEqual(ask(begins(2, 3), sure(1), sure(2), sure(3))[1:], [[-6], [-6], [0]])

    def test_several_steps_one_behind_another(self):
        calls = [begins(3, 4), act(0, 7, (1, 0)), act(1, 6, (2, 0)), act(3, 4, (4, 0))]
        self.assertEqual(last(*calls, sure(0)), [3, 0, 0, 1, 1, 3, 2])
        self.assertEqual(last(*calls, sure(1)), [2, 1, 1, 3, 2])
        self.assertEqual(last(*calls, sure(3)), [1, 3, 2])
        self.assertEqual(last(*calls, sure(2)), [-6])

    def test_fifteen_steps(self):
        # The acts count upwards: each sets one bit and clears those below it.
        counting = [act(2 ** bit - 1, 2 ** bit, (2 ** bit, 2 ** bit - 1)) for bit in range(4)]
        told = [number for state in range(15) for number in (state, lowest_clear_bit(state))]
        self.assertEqual(last(begins(4, 15), *counting, sure(0)), [15] + told)

    def test_the_worst_outcome_counts(self):
        # From 0 act 0 leads to what is wanted or to 1, from where it's one step more.
        calls = [begins(2, 2), act(0, 1, (2, 0), (1, 0)), act(1, 0, (2, 0))]
        self.assertEqual(last(*calls, sure(0)), [2, 0, 0, 1, 1])

    def test_three_outcomes_of_different_levels(self):
        calls = [begins(3, 4), act(0, 3, (1, 0), (2, 0), (4, 0)), act(1, 2, (4, 0)), act(2, 1, (1, 2))]
        self.assertEqual(last(*calls, sure(0)), [3, 0, 0, 1, 1, 2, 2])

    def test_an_outcome_that_changes_nothing_is_not_sure(self):
        self.assertEqual(last(begins(1, 1), act(0, 0, (1, 0), (0, 0)), sure(0)), [-6])

    def test_a_round_that_may_go_on_for_ever_is_not_sure(self):
        calls = [begins(2, 2), act(0, 1, (1, 0), (2, 0)), act(1, 0, (0, 1), (2, 0)), sure(0), sure(1)]
        self.assertEqual(ask(*calls)[3:], [[-6], [-6]])

    def test_the_same_outcome_twice(self):
        self.assertEqual(last(begins(1, 1), act(0, 0, (1, 0), (1, 0)), sure(0)), [1, 0, 0])


class TheRule(unittest.TestCase):
    def test_the_lowest_act_where_several_serve(self):
        calls = [begins(1, 1), act(1, 0, (1, 0)), act(0, 0, (0, 0)), act(0, 0, (1, 0)), act(0, 0, (1, 0)), sure(0)]
        self.assertEqual(last(*calls), [1, 0, 2])

    def test_a_lower_act_that_takes_longer_is_not_told(self):
        # Act 0 is sure too, by way of 1, but act 1 is there in one step.
        calls = [begins(2, 2), act(0, 1, (1, 0)), act(0, 0, (2, 0)), sure(0)]
        self.assertEqual(last(*calls), [1, 0, 1])

    def test_a_lower_act_to_lower_levels_is_told_ahead_of_a_higher_one(self):
        # From 0 both acts 1 and 2 lead to level 1; act 0 is for the last step alone.
        calls = [begins(3, 4), act(3, 0, (4, 0)), act(0, 3, (3, 0)), act(0, 3, (3, 0)), sure(0)]
        self.assertEqual(last(*calls), [2, 0, 1, 3, 0])

    def test_just_the_states_that_one_may_come_to(self):
        calls = [begins(3, 4), act(0, 0, (4, 0)), sure(1), sure(0)]
        self.assertEqual(ask(*calls)[2:], [[1, 1, 0], [1, 0, 0]])

    def test_the_states_are_rising(self):
        # From 3 one may come to 2, 1 and 0, and the state that's asked is told last.
        acts = [act(3, 0, (0, 1), (0, 2), (0, 3)), act(1, 2, (0, 1)), act(2, 1, (0, 2)), act(0, 3, (4, 0))]
        self.assertEqual(last(begins(3, 4), *acts, sure(3)), [3, 0, 3, 1, 1, 2, 2, 3, 0])

    def test_two_ways_to_one_state_tell_it_once(self):
        calls = [begins(3, 4), act(0, 3, (1, 0), (2, 0)), act(1, 2, (3, 0)), act(2, 1, (3, 0)), act(3, 0, (4, 0))]
        self.assertEqual(last(*calls, sure(0)), [3, 0, 0, 1, 1, 2, 2, 3, 3])

    def test_it_does_not_go_on_from_a_state_as_wanted(self):
        # Behind 2 an act would lead to 1, but 2 is as wanted.
        calls = [begins(2, 2), act(0, 2, (2, 0)), act(2, 0, (1, 2)), sure(0)]
        self.assertEqual(last(*calls), [1, 0, 0])


class Refused(unittest.TestCase):
    def test_a_fact_that_there_is_not(self):
        for facts in (1, 2, 3, 4):
            for state in (2 ** facts, 2 ** facts + 1, 2 ** 31, LARGEST):
                for wanted in (0, 1):
                    with self.subTest(facts=facts, state=state, wanted=wanted):
                        self.assertEqual(last(begins(facts, wanted), sure(state)), [-1])

    def test_no_level(self):
        self.assertEqual(last(begins(1, 1), sure(0)), [-6])

    def test_all_is_as_it_was(self):
        calls = [begins(2, 2), act(1, 0, (2, 0)), sure(4), sure(0), sure(1), goal(1), sure(1), act(0, 0, (1, 0))]
        self.assertEqual(ask(*calls), [[0], [0], [-1], [-6], [1, 1, 0], [0], [0], [1]])


def lowest_clear_bit(state):
    bit = 0
    while state >> bit & 1:
        bit += 1
    return bit


if __name__ == "__main__":
    unittest.main()
