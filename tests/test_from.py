import unittest

from lines import act, ask, begins, from_where, goal, hope, last, sure

NOTHING = (0, 0)


class HowMany(unittest.TestCase):
    def test_a_new_house(self):
        self.assertEqual(ask(from_where()), [[2, 2]])

    def test_no_act(self):
        for facts in (1, 2, 3, 4):
            for wanted in range(2 ** facts):
                with self.subTest(facts=facts, wanted=wanted):
                    good = 2 ** (facts - bin(wanted).count("1"))
                    self.assertEqual(last(begins(facts, wanted), from_where()), [good, good])

    def test_all_have_a_level(self):
        self.assertEqual(last(begins(4, 15), act(0, 0, (15, 0)), from_where()), [16, 16])

    def test_levels_of_several_steps_count(self):
        calls = [begins(2, 3), act(0, 3, (1, 0)), act(1, 2, (2, 0)), from_where()]
        self.assertEqual(last(*calls), [3, 3])

    def test_some_have_hope_and_no_level(self):
        self.assertEqual(last(begins(2, 2), act(0, 0, (2, 0), NOTHING), from_where()), [2, 4])

    def test_some_have_neither(self):
        # 4 to 7 are as wanted; 3 is sure, 1 has hope, 0 and 2 have neither.
        calls = [begins(3, 4), act(3, 0, (4, 0)), act(1, 2, (4, 0), NOTHING), from_where()]
        self.assertEqual(last(*calls), [5, 6])

    def test_what_falls_out_does_not_count(self):
        # 0 may lead to 2, 2 may lead to 1, and from 1 and 3 there is no way.
        calls = [begins(3, 4), act(2, 1, (4, 0), (1, 2)), act(0, 3, (4, 0), (2, 0)), from_where()]
        self.assertEqual(last(*calls), [4, 4])

    def test_it_counts_just_those_that_sure_and_hope_answer(self):
        acts = [act(8, 3, (1, 0), NOTHING), act(1, 4, (2, 1), (0, 8)), act(2, 9, (4, 0)), act(0, 15, (8, 0), (4, 0))]
        calls = [begins(4, 4), *acts]
        by_sure = ask(*calls, *[sure(state) for state in range(16)])[5:]
        by_hope = ask(*calls, *[hope(state) for state in range(16)])[5:]
        counted = [16 - by_sure.count([-6]), 16 - by_hope.count([-6])]
        self.assertEqual(last(*calls, from_where()), counted)
        self.assertLess(8, counted[0])
        self.assertLess(counted[0], counted[1])
        self.assertLess(counted[1], 16)

    def test_goal_and_begins_count_anew(self):
        calls = [begins(2, 2), act(0, 0, (2, 0)), from_where(), goal(1), from_where(), begins(3, 1), from_where()]
        self.assertEqual(ask(*calls), [[0], [0], [4, 4], [0], [2, 2], [0], [4, 4]])


if __name__ == "__main__":
    unittest.main()
