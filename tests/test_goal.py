import unittest

from lines import LARGEST, act, ask, begins, goal, last, sure


class Taken(unittest.TestCase):
    def test_it_answers_nought(self):
        for wanted in range(16):
            with self.subTest(wanted=wanted):
                self.assertEqual(last(begins(4, 0), goal(wanted)), [0])

    def test_the_new_goal_holds_and_the_old_one_does_not(self):
        calls = [begins(2, 1), goal(2), sure(2), sure(1), goal(0), sure(1)]
        self.assertEqual(ask(*calls), [[0], [0], [0], [-6], [0], [0]])

    def test_the_acts_stay(self):
        calls = [begins(2, 1), act(0, 0, (2, 0)), sure(0), goal(2), sure(0), act(0, 0, (1, 0))]
        self.assertEqual(ask(*calls), [[0], [0], [-6], [0], [1, 0, 0], [1]])


class Refused(unittest.TestCase):
    def test_a_wanted_fact_that_there_is_not(self):
        for facts in (1, 2, 3, 4):
            for wanted in (2 ** facts, 2 ** facts + 1, 2 ** 31, LARGEST):
                with self.subTest(facts=facts, wanted=wanted):
                    self.assertEqual(last(begins(facts, 0), goal(wanted)), [-1])

    def test_the_goal_that_was_stays(self):
        calls = [begins(2, 1), act(0, 0, (1, 0)), goal(4), goal(LARGEST), sure(1), sure(2), sure(0)]
        self.assertEqual(ask(*calls), [[0], [0], [-1], [-1], [0], [1, 2, 0], [1, 0, 0]])


if __name__ == "__main__":
    unittest.main()
