import unittest

from lines import LARGEST, act, ask, begins, goal, hope, last, sure

NOTHING = (0, 0)


class Levels(unittest.TestCase):
    def test_as_wanted_has_no_rule_behind_it(self):
        calls = [begins(2, 2), act(0, 0, (2, 0)), hope(2), hope(3)]
        self.assertEqual(ask(*calls)[2:], [[0], [0]])

    def test_nothing_wanted_is_as_wanted_everywhere(self):
        self.assertEqual(ask(begins(2, 0), *[hope(state) for state in range(4)])[1:], [[0]] * 4)

    def test_all_wanted_facts_have_to_be_so(self):
        self.assertEqual(ask(begins(2, 3), hope(1), hope(2), hope(3))[1:], [[-6], [-6], [0]])

    def test_an_act_that_may_go_wrong_and_be_tried_again(self):
        calls = [begins(1, 1), act(0, 0, (1, 0), NOTHING), sure(0), hope(0)]
        self.assertEqual(ask(*calls)[2:], [[-6], [1, 0, 0]])

    def test_a_round_that_may_go_on_for_a_while(self):
        calls = [begins(2, 2), act(0, 1, (1, 0), (2, 0)), act(1, 0, (0, 1), (2, 0)), sure(0), hope(0), hope(1)]
        self.assertEqual(ask(*calls)[3:], [[-6], [1, 0, 0, 1, 1], [1, 0, 0, 1, 1]])

    def test_the_best_outcome_counts(self):
        # Sure counts the way by 1 and takes two steps at worst; hope is there in one.
        calls = [begins(2, 2), act(0, 1, (2, 0), (1, 0)), act(1, 0, (2, 0)), sure(0), hope(0)]
        self.assertEqual(ask(*calls)[3:], [[2, 0, 0, 1, 1], [1, 0, 0, 1, 1]])

    def test_which_outcome_is_needed_does_not_matter(self):
        for row in ([(1, 0), NOTHING, NOTHING], [NOTHING, (1, 0), NOTHING], [NOTHING, NOTHING, (1, 0)]):
            with self.subTest(row=row):
                self.assertEqual(last(begins(1, 1), act(0, 0, *row), hope(0)), [1, 0, 0])

    def test_several_steps_each_of_which_may_go_wrong(self):
        calls = [begins(3, 4), act(0, 7, (1, 0), NOTHING), act(1, 6, (2, 0), (0, 1)), act(3, 4, (4, 0), (0, 3))]
        told = [0, 0, 1, 1, 3, 2]
        self.assertEqual(ask(*calls, hope(0), hope(1), hope(3))[4:], [[3] + told, [2] + told, [1] + told])

    def test_fifteen_steps(self):
        # The acts count upwards, or nothing comes of it: each sets one bit and clears those below it.
        counting = [act(2 ** bit - 1, 2 ** bit, (2 ** bit, 2 ** bit - 1), NOTHING) for bit in range(4)]
        told = [number for state in range(15) for number in (state, lowest_clear_bit(state))]
        given = ask(begins(4, 15), *counting, sure(0), hope(0), hope(14))[5:]
        self.assertEqual(given, [[-6], [15] + told, [1, 14, 0]])


class WhereThereIsNoWayAnyMore(unittest.TestCase):
    def test_an_act_that_may_lead_there_is_not_told(self):
        # From 1 nothing leads on; act 0 may lead to 1, act 1 can only be tried again.
        calls = [begins(2, 2), act(0, 1, (2, 0), (1, 0)), act(0, 1, (2, 0), NOTHING), hope(0), hope(1)]
        self.assertEqual(ask(*calls)[3:], [[1, 0, 1], [-6]])

    def test_it_is_not_told_where_the_other_way_is_longer_either(self):
        # Act 0 would be there in one step but may lead to 1; acts 1 and 2 take two.
        calls = [begins(3, 4), act(0, 3, (4, 0), (1, 0)), act(0, 3, (2, 0), NOTHING), act(2, 1, (4, 0), NOTHING)]
        self.assertEqual(ask(*calls, hope(0), hope(2), hope(1))[4:], [[2, 0, 1, 2, 2], [1, 2, 2], [-6]])

    def test_a_state_that_has_only_such_acts(self):
        calls = [begins(2, 2), act(0, 1, (2, 0), (1, 0)), act(0, 1, NOTHING, (1, 0), (2, 0)), hope(0)]
        self.assertEqual(last(*calls), [-6])

    def test_a_state_from_where_one_only_goes_round(self):
        calls = [begins(2, 2), act(0, 1, (1, 0)), act(1, 0, (0, 1)), act(0, 0, NOTHING), hope(0), hope(1)]
        self.assertEqual(ask(*calls)[4:], [[-6], [-6]])

    def test_a_state_falls_out_after_others(self):
        # 1 has no way at all; 2 may only lead to 1 or what is wanted; so 0, which may lead to 2, has none either.
        calls = [begins(3, 4), act(2, 1, (4, 0), (1, 2)), act(0, 3, (4, 0), (2, 0))]
        self.assertEqual(ask(*calls, hope(1), hope(2), hope(0))[3:], [[-6], [-6], [-6]])

    def test_a_state_falls_out_after_others_and_another_act_is_told(self):
        calls = [begins(3, 4), act(2, 1, (4, 0), (1, 2)), act(0, 3, (4, 0), (2, 0)), act(0, 3, (4, 0), NOTHING)]
        self.assertEqual(ask(*calls, hope(2), hope(0))[4:], [[-6], [1, 0, 2]])

    def test_a_level_grows_after_others_have_fallen_out(self):
        # With 3 there 0 would be one step away by act 0; 3 may come to 1, where there is no way.
        acts = [act(0, 3, (4, 0), (3, 0)), act(3, 0, (4, 0), (1, 2)), act(0, 3, (2, 0)), act(2, 1, (4, 0))]
        self.assertEqual(ask(begins(3, 4), *acts, hope(0), hope(3), hope(2))[5:], [[2, 0, 2, 2, 3], [-6], [1, 2, 3]])

    def test_behind_a_state_as_wanted_nothing_is_asked(self):
        # From 2 there is no act, but 2 is as wanted.
        self.assertEqual(last(begins(2, 2), act(0, 2, (2, 0), NOTHING), hope(0)), [1, 0, 0])


class TheRule(unittest.TestCase):
    def test_the_lowest_act_where_several_serve(self):
        acts = [act(1, 0, (1, 0)), act(0, 0, NOTHING), act(0, 0, (1, 0), NOTHING), act(0, 0, (1, 0))]
        self.assertEqual(last(begins(1, 1), *acts, hope(0)), [1, 0, 2])

    def test_a_lower_act_that_takes_longer_is_not_told(self):
        calls = [begins(2, 2), act(0, 1, (1, 0)), act(0, 0, (2, 0), NOTHING), hope(0)]
        self.assertEqual(last(*calls), [1, 0, 1])

    def test_a_lower_act_is_told_ahead_of_a_sure_one(self):
        # Act 1 is sure, but act 0 has hope's level too and is lower.
        calls = [begins(1, 1), act(0, 0, (1, 0), NOTHING), act(0, 0, (1, 0)), sure(0), hope(0)]
        self.assertEqual(ask(*calls)[3:], [[1, 0, 1], [1, 0, 0]])

    def test_just_the_states_that_one_may_come_to(self):
        calls = [begins(3, 4), act(0, 0, (4, 0), NOTHING), hope(1), hope(0), hope(3)]
        self.assertEqual(ask(*calls)[2:], [[1, 1, 0], [1, 0, 0], [1, 3, 0]])

    def test_the_states_that_the_worse_outcomes_lead_to_are_told(self):
        # From 0 one may come to 1 or 3 instead; 3 is of a higher level than 0.
        acts = [act(0, 3, (4, 0), (1, 0), (3, 0)), act(1, 2, (4, 0)), act(3, 0, (0, 2))]
        self.assertEqual(last(begins(3, 4), *acts, hope(0)), [1, 0, 0, 1, 1, 3, 2])

    def test_the_states_are_rising(self):
        acts = [act(3, 0, (0, 1), (0, 2), (0, 3)), act(1, 2, (0, 1)), act(2, 1, (0, 2)), act(0, 3, (4, 0), NOTHING)]
        self.assertEqual(last(begins(3, 4), *acts, hope(3)), [2, 0, 3, 1, 1, 2, 2, 3, 0])

    def test_it_does_not_go_on_from_a_state_as_wanted(self):
        calls = [begins(2, 2), act(0, 2, (2, 0), NOTHING), act(2, 0, (1, 2)), hope(0)]
        self.assertEqual(last(*calls), [1, 0, 0])


class Refused(unittest.TestCase):
    def test_a_fact_that_there_is_not(self):
        for facts in (1, 2, 3, 4):
            for state in (2 ** facts, 2 ** facts + 1, 2 ** 31, LARGEST):
                for wanted in (0, 1):
                    with self.subTest(facts=facts, state=state, wanted=wanted):
                        self.assertEqual(last(begins(facts, wanted), hope(state)), [-1])

    def test_no_level(self):
        self.assertEqual(last(begins(1, 1), hope(0)), [-6])

    def test_an_act_that_may_not_be_done(self):
        calls = [begins(2, 2), act(1, 0, (2, 0)), act(0, 1, (2, 0)), hope(0), hope(1)]
        self.assertEqual(ask(*calls)[3:], [[1, 0, 1], [1, 1, 0]])
        self.assertEqual(last(begins(2, 2), act(1, 1, (2, 0)), hope(1)), [-6])

    def test_all_is_as_it_was(self):
        calls = [begins(2, 2), act(1, 0, (2, 0)), hope(4), hope(0), hope(1), goal(1), hope(1), act(0, 0, (1, 0))]
        self.assertEqual(ask(*calls), [[0], [0], [-1], [-6], [1, 1, 0], [0], [0], [1]])


def lowest_clear_bit(state):
    bit = 0
    while state >> bit & 1:
        bit += 1
    return bit


if __name__ == "__main__":
    unittest.main()
