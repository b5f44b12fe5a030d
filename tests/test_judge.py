import unittest

from lines import LARGEST, act, ask, begins, goal, judge, last

NOTHING = (0, 0)


def raw_judge(state, row):
    return [6, state, len(row)] + row


# Acts that count upwards: each sets one bit and clears those below it.
COUNTING = [act(2 ** bit - 1, 2 ** bit, (2 ** bit, 2 ** bit - 1)) for bit in range(4)]
COUNTED = [(state, next(bit for bit in range(4) if not state >> bit & 1)) for state in range(15)]


class NoActToDo(unittest.TestCase):
    def test_a_rule_of_no_numbers(self):
        self.assertEqual(ask(begins(2, 2), act(0, 0, (2, 0)), judge(0), judge(1))[2:], [[3, 0], [3, 1]])

    def test_no_act_is_told(self):
        calls = [begins(2, 2), act(0, 0, (2, 0)), judge(0, (1, 0)), judge(1, (0, 0))]
        self.assertEqual(ask(*calls)[2:], [[3, 0], [3, 1]])

    def test_an_act_that_there_is_not(self):
        for number in (1, 5, 6, 4294967294, LARGEST):
            with self.subTest(number=number):
                self.assertEqual(last(begins(1, 1), act(0, 0, (1, 0)), judge(0, (0, number))), [3, 0])
        self.assertEqual(last(begins(1, 1), judge(0, (0, 0))), [3, 0])

    def test_an_act_that_may_not_be_done_there(self):
        needing = [begins(2, 2), act(1, 0, (2, 0))]
        self.assertEqual(ask(*needing, judge(0, (0, 0)), judge(1, (1, 0)))[2:], [[3, 0], [2, 1]])
        barred = [begins(2, 2), act(0, 1, (2, 0))]
        self.assertEqual(ask(*barred, judge(0, (0, 0)), judge(1, (1, 0)))[2:], [[2, 1], [3, 1]])

    def test_a_state_further_on(self):
        calls = [begins(3, 4), act(0, 3, (1, 0)), act(1, 0, (2, 0)), judge(0, (0, 0)), judge(0, (0, 0), (1, 1))]
        self.assertEqual(ask(*calls)[3:], [[3, 1], [3, 3]])

    def test_any_outcome_may_come(self):
        for row in ([(1, 0), (4, 0), (4, 0)], [(4, 0), (1, 0), (4, 0)], [(4, 0), (4, 0), (1, 0)]):
            with self.subTest(row=row):
                self.assertEqual(last(begins(3, 4), act(0, 0, *row), judge(0, (0, 0))), [3, 1])

    def test_the_lowest_state(self):
        # From 3 one may come to 1 and to 2, for which nothing is told, in whatever order the outcomes stand.
        for row in ([(0, 2), (0, 1)], [(0, 1), (0, 2)]):
            with self.subTest(row=row):
                self.assertEqual(last(begins(3, 4), act(3, 0, *row), judge(3, (3, 0))), [3, 1])

    def test_the_lowest_of_no_act_told_and_one_that_may_not_be_done(self):
        calls = [begins(3, 4), act(3, 0, (0, 2), (0, 1))]
        self.assertEqual(last(*calls, judge(3, (3, 0), (1, 0))), [3, 1])
        self.assertEqual(last(*calls, judge(3, (3, 0), (2, 0))), [3, 1])

    def test_only_states_that_one_may_come_to(self):
        calls = [begins(3, 4), act(2, 0, (4, 0)), judge(2, (2, 0)), judge(3, (0, 0), (1, 0), (3, 0))]
        self.assertEqual(ask(*calls)[2:], [[2, 1], [2, 1]])

    def test_nothing_led_to_by_an_act_that_may_not_be_done(self):
        # If act 0 could be done in 1 it would lead to 0, which is lower.
        self.assertEqual(last(begins(2, 2), act(0, 1, (0, 1)), judge(1, (1, 0))), [3, 1])


class NoWayAnyMore(unittest.TestCase):
    def test_going_round(self):
        calls = [begins(2, 2), act(0, 1, (1, 0)), act(1, 0, (0, 1)), judge(0, (0, 0), (1, 1)), judge(1, (0, 0), (1, 1))]
        self.assertEqual(ask(*calls)[3:], [[0, 0], [0, 0]])

    def test_standing_still(self):
        self.assertEqual(last(begins(2, 2), act(0, 0, NOTHING), judge(1, (1, 0))), [0, 1])

    def test_only_one_outcome_leads_there(self):
        # From 0 what is wanted may come or 1, where act 1 changes nothing; from 0 itself one can still come there.
        calls = [begins(2, 2), act(0, 1, (2, 0), (1, 0)), act(1, 0, NOTHING), judge(0, (0, 0), (1, 1))]
        self.assertEqual(last(*calls), [0, 1])

    def test_the_lowest_state(self):
        for row in ([(1, 0), (2, 0), (4, 0)], [(2, 0), (4, 0), (1, 0)]):
            with self.subTest(row=row):
                calls = [begins(3, 4), act(0, 3, *row), act(0, 0, NOTHING), judge(0, (0, 0), (2, 1), (1, 1))]
                self.assertEqual(last(*calls), [0, 1])

    def test_that_another_act_would_lead_on_does_not_count(self):
        calls = [begins(1, 1), act(0, 0, NOTHING), act(0, 0, (1, 0)), judge(0, (0, 0)), judge(0, (0, 1))]
        self.assertEqual(ask(*calls)[3:], [[0, 0], [2, 1]])

    def test_only_states_that_one_may_come_to(self):
        calls = [begins(2, 2), act(0, 0, NOTHING), act(0, 0, (2, 0)), judge(1, (0, 0), (1, 1))]
        self.assertEqual(last(*calls), [2, 1])


class TillAllIsAsWanted(unittest.TestCase):
    def test_no_step_from_a_state_as_wanted(self):
        calls = [begins(2, 2), act(0, 0, (1, 2)), judge(2), judge(3), judge(2, (2, 0)), judge(3, (3, 9))]
        self.assertEqual(ask(*calls)[2:], [[2, 0]] * 4)

    def test_nothing_wanted(self):
        self.assertEqual(ask(judge(0), judge(1), judge(0, (0, 0))), [[2, 0]] * 3)

    def test_one_step(self):
        self.assertEqual(last(begins(1, 1), act(0, 0, (1, 0)), judge(0, (0, 0))), [2, 1])

    def test_fifteen_steps(self):
        calls = [begins(4, 15), *COUNTING]
        given = ask(*calls, *[judge(state, *COUNTED) for state in range(16)])[5:]
        self.assertEqual(given, [[2, 15 - state] for state in range(16)])

    def test_the_order_of_the_pairs_does_not_matter(self):
        calls = [begins(4, 15), *COUNTING]
        self.assertEqual(last(*calls, judge(0, *reversed(COUNTED))), [2, 15])

    def test_the_greatest_number_where_outcomes_differ(self):
        # From 0 it's one step, or two by way of 1, or three by way of 2 and then 1.
        for row in ([(4, 0), (1, 0), (2, 0)], [(2, 0), (1, 0), (4, 0)], [(1, 0), (2, 0), (4, 0)]):
            with self.subTest(row=row):
                calls = [begins(3, 4), act(0, 3, *row), act(1, 2, (4, 0)), act(2, 1, (1, 2))]
                self.assertEqual(last(*calls, judge(0, (0, 0), (1, 1), (2, 2))), [2, 3])

    def test_a_longer_way_than_there_need_be(self):
        # In one step it would be done by act 2, but the rule goes by way of 1.
        calls = [begins(2, 2), act(0, 1, (1, 0)), act(1, 0, (2, 0)), act(0, 0, (2, 0)), judge(0, (0, 0), (1, 1))]
        self.assertEqual(last(*calls), [2, 2])

    def test_a_round_elsewhere_does_not_count(self):
        calls = [begins(2, 2), act(0, 1, (2, 0)), act(1, 0, (2, 0), NOTHING), judge(0, (0, 0), (1, 1))]
        self.assertEqual(last(*calls), [2, 1])


class ForHowLongIsNotKnown(unittest.TestCase):
    def test_an_act_that_is_tried_again(self):
        self.assertEqual(last(begins(1, 1), act(0, 0, (1, 0), NOTHING), judge(0, (0, 0))), [1])

    def test_a_round_that_one_can_leave(self):
        calls = [begins(2, 2), act(0, 1, (1, 0)), act(1, 0, (0, 1), (2, 0)), judge(0, (0, 0), (1, 1))]
        self.assertEqual(last(*calls), [1])

    def test_a_round_further_on(self):
        calls = [begins(3, 4), act(0, 3, (1, 0), (4, 0)), act(1, 2, (4, 0), NOTHING), judge(0, (0, 0), (1, 1))]
        self.assertEqual(last(*calls), [1])


class WhichGoesAhead(unittest.TestCase):
    def test_no_act_to_do_ahead_of_no_way(self):
        # 1 is lost and lower; for 2 no act is told.
        calls = [begins(3, 4), act(0, 3, (1, 0), (2, 0)), act(1, 0, NOTHING), judge(0, (0, 0), (1, 1))]
        self.assertEqual(last(*calls), [3, 2])

    def test_no_act_to_do_ahead_of_steps(self):
        calls = [begins(3, 4), act(0, 3, (4, 0), (2, 0)), judge(0, (0, 0))]
        self.assertEqual(last(*calls), [3, 2])

    def test_no_act_to_do_ahead_of_a_round(self):
        calls = [begins(3, 4), act(0, 3, (4, 0), (2, 0), NOTHING), judge(0, (0, 0))]
        self.assertEqual(last(*calls), [3, 2])

    def test_no_way_ahead_of_a_round(self):
        # 0 may be tried again, but 2 is lost.
        calls = [begins(3, 4), act(0, 3, (4, 0), (2, 0), NOTHING), act(2, 0, NOTHING), judge(0, (0, 0), (2, 1))]
        self.assertEqual(last(*calls), [0, 2])

    def test_no_way_ahead_of_steps(self):
        calls = [begins(3, 4), act(0, 3, (4, 0), (2, 0)), act(2, 0, NOTHING), judge(0, (0, 0), (2, 1))]
        self.assertEqual(last(*calls), [0, 2])


class TheRule(unittest.TestCase):
    def test_an_act_told_for_a_state_as_wanted_changes_nothing(self):
        # Act 1 would lead away from 2 to 1, for which nothing is told.
        calls = [begins(2, 2), act(0, 2, (2, 0)), act(2, 0, (1, 2)), judge(0, (0, 0), (2, 1)), judge(2, (2, 1))]
        self.assertEqual(ask(*calls)[3:], [[2, 1], [2, 0]])

    def test_an_act_that_may_not_be_done_told_for_a_state_as_wanted(self):
        calls = [begins(2, 2), act(0, 2, (2, 0)), judge(0, (2, 0), (0, 0)), judge(0, (0, 0), (2, LARGEST))]
        self.assertEqual(ask(*calls)[2:], [[2, 1], [2, 1]])

    def test_told_twice_the_first_holds(self):
        calls = [begins(1, 1), act(0, 0, (1, 0)), act(0, 0, NOTHING), act(1, 0, (1, 0))]
        asked = [
            (judge(0, (0, 0), (0, 1)), [2, 1]),
            (judge(0, (0, 1), (0, 0)), [0, 0]),
            (judge(0, (0, 2), (0, 0)), [3, 0]),
            (judge(0, (0, LARGEST), (0, 0)), [3, 0]),
            (judge(0, (0, 0), (0, LARGEST)), [2, 1]),
            (judge(0, (1, 1), (0, 0), (1, 0), (0, 1), (0, 2)), [2, 1]),
        ]
        for call, answer in asked:
            with self.subTest(call=call):
                self.assertEqual(last(*calls, call), answer)

    def test_a_state_that_is_none_of_the_house(self):
        calls = [begins(1, 1), act(0, 0, (1, 0))]
        for state in (2, 3, 16, 2 ** 31, LARGEST):
            with self.subTest(state=state):
                self.assertEqual(last(*calls, judge(0, (state, 0), (0, 0), (state, LARGEST))), [2, 1])
                self.assertEqual(last(*calls, judge(0, (state, 0))), [3, 0])

    def test_forty_numbers(self):
        calls = [begins(4, 15), *COUNTING]
        self.assertEqual(last(*calls, judge(0, *COUNTED, *[(LARGEST, LARGEST)] * 5)), [2, 15])
        self.assertEqual(last(*calls, judge(0, *[(0, 1)] * 5, *COUNTED)), [3, 0])


class Refused(unittest.TestCase):
    def test_a_number_that_is_left_over(self):
        for length in (1, 3, 5, 39):
            with self.subTest(length=length):
                self.assertEqual(last(begins(1, 1), act(0, 0, (1, 0)), raw_judge(0, [0] * length)), [-1])
                self.assertEqual(last(begins(1, 0), raw_judge(1, [LARGEST] * length)), [-1])

    def test_a_fact_that_there_is_not(self):
        for facts in (1, 2, 3, 4):
            for state in (2 ** facts, 2 ** facts + 1, 2 ** 31, LARGEST):
                for wanted in (0, 1):
                    with self.subTest(facts=facts, state=state, wanted=wanted):
                        self.assertEqual(last(begins(facts, wanted), judge(state)), [-1])
                        self.assertEqual(last(begins(facts, wanted), judge(state, (state, 0))), [-1])

    def test_all_is_as_it_was(self):
        calls = [begins(2, 2), act(1, 0, (2, 0)), judge(4), raw_judge(0, [0]), judge(1, (1, 0)), goal(1), judge(1)]
        self.assertEqual(ask(*calls, act(0, 0, NOTHING)), [[0], [0], [-1], [-1], [2, 1], [0], [2, 0], [1]])


if __name__ == "__main__":
    unittest.main()
