import unittest

from lines import LARGEST, act, ask, begins, goal, last, sure


class Taken(unittest.TestCase):
    def test_one_to_four_facts(self):
        for facts in (1, 2, 3, 4):
            with self.subTest(facts=facts):
                everything = 2 ** facts - 1
                self.assertEqual(last(begins(facts, everything)), [0])
                self.assertEqual(last(begins(facts, 0), sure(everything)), [0])
                self.assertEqual(last(begins(facts, 0), sure(everything + 1)), [-1])

    def test_what_is_wanted_holds(self):
        self.assertEqual(ask(begins(3, 6), sure(6), sure(7), sure(2), sure(5)), [[0], [0], [0], [-6], [-6]])

    def test_it_takes_all_acts_away(self):
        calls = [begins(1, 1), act(0, 0, (1, 0)), sure(0), begins(1, 1), sure(0), act(0, 0, (1, 0))]
        self.assertEqual(ask(*calls), [[0], [0], [1, 0, 0], [0], [-6], [0]])

    def test_room_for_six_acts_again(self):
        acts = [act(0, 0, (0, 0))] * 6
        calls = [*acts, begins(2, 0), *acts, act(0, 0, (0, 0))]
        numbers = [[0], [1], [2], [3], [4], [5]]
        self.assertEqual(ask(*calls), numbers + [[0]] + numbers + [[-7]])


class Refused(unittest.TestCase):
    def test_not_one_to_four_facts(self):
        for facts in (0, 5, 6, 32, LARGEST):
            with self.subTest(facts=facts):
                self.assertEqual(last(begins(facts, 0)), [-1])

    def test_a_wanted_fact_that_there_is_not(self):
        for facts in (1, 2, 3, 4):
            for wanted in (2 ** facts, 2 ** facts + 1, 2 ** 31, LARGEST):
                with self.subTest(facts=facts, wanted=wanted):
                    self.assertEqual(last(begins(facts, wanted)), [-1])

    def test_the_facts_that_were_do_not_count(self):
        self.assertEqual(ask(begins(4, 15), begins(2, 4), begins(1, 1), begins(3, 4)), [[0], [-1], [0], [0]])

    def test_all_is_as_it_was(self):
        for refused in (begins(0, 0), begins(5, 0), begins(LARGEST, 0), begins(1, 2), begins(4, 16)):
            with self.subTest(refused=refused):
                calls = [begins(2, 2), act(0, 0, (2, 0)), refused, sure(0), goal(4), goal(3), act(0, 0, (1, 0))]
                self.assertEqual(ask(*calls), [[0], [0], [-1], [1, 0, 0], [-1], [0], [1]])


if __name__ == "__main__":
    unittest.main()
