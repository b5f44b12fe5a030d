import unittest

from lines import LARGEST, act, ask, begins, last, sure

NOTHING = (0, 0)


def raw_act(needs, bars, row):
    return [1, needs, bars, len(row)] + row


class Numbers(unittest.TestCase):
    def test_nought_to_five_in_order_then_no_room(self):
        calls = [act(0, 0, NOTHING)] * 8
        self.assertEqual(ask(*calls), [[0], [1], [2], [3], [4], [5], [-7], [-7]])

    def test_no_room_goes_ahead_of_what_is_wrong(self):
        wrong = [
            raw_act(0, 0, []),
            raw_act(0, 0, [0]),
            raw_act(0, 0, [0] * 8),
            raw_act(0, 0, [0] * 40),
            raw_act(2, 0, [0, 0]),
            raw_act(0, 2, [0, 0]),
            raw_act(0, 0, [2, 0]),
            raw_act(0, 0, [0, LARGEST]),
        ]
        six = [act(0, 0, NOTHING)] * 6
        self.assertEqual(ask(*six, *wrong)[6:], [[-7]] * len(wrong))
        self.assertEqual(ask(*six[:5], *wrong)[5:], [[-1]] * len(wrong))

    def test_an_act_without_room_counts_as_no_act(self):
        six = [act(0, 0, NOTHING)] * 6
        self.assertEqual(last(begins(1, 1), *six, act(0, 0, (1, 0)), sure(0)), [-6])

    def test_a_refused_act_counts_as_no_act(self):
        calls = [begins(2, 2), act(0, 0), act(0, 0, NOTHING), act(0, 4, (2, 0)), raw_act(0, 0, [2, 0, 2]), sure(0)]
        self.assertEqual(ask(*calls, act(0, 0, (2, 0)), sure(0)), [[0], [-1], [0], [-1], [-1], [-6], [1], [1, 0, 1]])


class Outcomes(unittest.TestCase):
    def test_one_to_three(self):
        for many in (1, 2, 3):
            with self.subTest(many=many):
                self.assertEqual(last(act(0, 0, *[NOTHING] * many)), [0])

    def test_none_or_more_than_three(self):
        for many in (0, 4, 5, 20):
            with self.subTest(many=many):
                self.assertEqual(last(act(0, 0, *[NOTHING] * many)), [-1])

    def test_a_number_that_is_left_over(self):
        for length in (1, 3, 5, 7, 39):
            with self.subTest(length=length):
                self.assertEqual(last(raw_act(0, 0, [0] * length)), [-1])

    def test_what_is_brought_comes_ahead_of_what_is_taken_away(self):
        calls = [begins(2, 1), act(0, 0, (1, 2)), sure(2), sure(0)]
        self.assertEqual(ask(*calls)[2:], [[1, 2, 0], [1, 0, 0]])
        self.assertEqual(last(begins(2, 1), act(0, 0, (2, 1)), sure(0)), [-6])

    def test_both_brought_and_taken_away_is_so(self):
        calls = [begins(2, 3), act(0, 0, (3, 1)), sure(0), sure(1), sure(2)]
        self.assertEqual(ask(*calls)[2:], [[1, 0, 0], [1, 1, 0], [1, 2, 0]])

    def test_what_is_taken_away_is_gone(self):
        # The first act leads to the second's beginning only where fact 0 is gone.
        calls = [begins(2, 2), act(1, 0, (0, 1)), act(0, 1, (2, 0)), sure(1)]
        self.assertEqual(last(*calls), [2, 0, 1, 1, 0])

    def test_what_is_not_told_stays(self):
        self.assertEqual(last(begins(3, 7), act(0, 0, (1, 0)), sure(6)), [1, 6, 0])
        self.assertEqual(last(begins(3, 7), act(0, 0, (1, 2)), sure(6)), [-6])

    def test_each_outcome_may_come(self):
        good = (1, 0)
        bad = (2, 0)
        for row in ([bad, good, good], [good, bad, good], [good, good, bad], [bad, good], [good, bad]):
            with self.subTest(row=row):
                self.assertEqual(last(begins(2, 1), act(0, 0, *row), sure(0)), [-6])
        self.assertEqual(last(begins(2, 1), act(0, 0, good, (3, 0), good), sure(0)), [1, 0, 0])


class WhenItMayBeDone(unittest.TestCase):
    def test_all_that_has_to_be_so(self):
        calls = [begins(3, 4), act(3, 0, (4, 0)), sure(3), sure(0), sure(1), sure(2)]
        self.assertEqual(ask(*calls)[2:], [[1, 3, 0], [-6], [-6], [-6]])

    def test_none_that_must_not_be(self):
        calls = [begins(3, 4), act(0, 3, (4, 0)), sure(0), sure(1), sure(2), sure(3)]
        self.assertEqual(ask(*calls)[2:], [[1, 0, 0], [-6], [-6], [-6]])

    def test_both_needed_and_barred_is_taken_but_never_done(self):
        calls = [begins(2, 2), act(1, 1, (2, 0)), sure(0), sure(1)]
        self.assertEqual(ask(*calls), [[0], [0], [-6], [-6]])


class FactsThatAreNotThere(unittest.TestCase):
    def test_wherever_it_stands(self):
        for facts in (1, 2, 3, 4):
            for missing in (2 ** facts, 2 ** facts + 1, 2 ** 31, LARGEST):
                for place in range(8):
                    numbers = [0] * 8
                    numbers[place] = missing
                    with self.subTest(facts=facts, numbers=numbers):
                        refused = raw_act(numbers[0], numbers[1], numbers[2:])
                        self.assertEqual(last(begins(facts, 0), refused), [-1])

    def test_every_fact_that_is_there(self):
        for facts in (1, 2, 3, 4):
            every = 2 ** facts - 1
            with self.subTest(facts=facts):
                self.assertEqual(last(begins(facts, 0), raw_act(every, every, [every] * 6)), [0])


if __name__ == "__main__":
    unittest.main()
