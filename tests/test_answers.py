import contextlib
import io
import unittest

from lines import LARGEST, act, ask, begins, goal, joined, sure
from surehopes.house import answers


class TheNewHouse(unittest.TestCase):
    def test_it_has_one_fact(self):
        self.assertEqual(ask(goal(1), goal(2), sure(2), act(2, 0, (0, 0))), [[0], [-1], [-1], [-1]])

    def test_nothing_is_wanted(self):
        self.assertEqual(ask(sure(0), sure(1)), [[0], [0]])

    def test_there_is_no_act(self):
        self.assertEqual(ask(goal(1), sure(0), act(0, 0, (1, 0)), sure(0)), [[0], [-6], [0], [1, 0, 0]])


class TheList(unittest.TestCase):
    def test_each_answer_has_its_length_before_it(self):
        calls = [0, 2, 2, 1, 0, 1, 4, 2, 0, 1, 0, 1, 1, 0, 2, 2, 0, 3, 0, 2, 4, 3, 4, 3, 2, 1, 0, 0, 0, 1, 0, 0, 1, 0]
        given = [1, 0, 1, 0, 1, 1, 5, 2, 0, 0, 1, 1, 1, -1, 1, -1, 1, 0, 1, -1, 1, -1]
        self.assertEqual(answers(calls), given)

    def test_the_row_of_a_refused_act_is_not_read_as_calls(self):
        for length in (0, 1, 7, 8, 39, 40):
            with self.subTest(length=length):
                self.assertEqual(answers([1, 0, 0, length] + [LARGEST] * length + [3, 1]), [1, -1, 1, 0])

    def test_the_row_of_an_act_without_room_is_not_read_as_calls(self):
        calls = joined([act(0, 0, (0, 0))] * 6) + [1, 0, 0, 40] + [2] * 40 + [3, 0]
        self.assertEqual(answers(calls)[12:], [1, -7, 1, 0])

    def test_sixty_calls(self):
        self.assertEqual(answers([3, 0] * 60), [1, 0] * 60)

    def test_a_long_list(self):
        calls = [1, 0, 0, 40] + [0] * 40
        self.assertEqual(answers(calls * 60), [1, -1] * 60)

    def test_what_is_answered_is_int_alone(self):
        calls = joined([begins(2, 2), act(0, 0, (2, 0), (2, 1)), act(0, 0), goal(2), goal(4), sure(0), sure(2), sure(4)])
        given = answers(calls)
        self.assertIs(type(given), list)
        self.assertEqual({type(number) for number in given}, {int})

    def test_nothing_is_printed(self):
        shown = io.StringIO()
        with contextlib.redirect_stdout(shown), contextlib.redirect_stderr(shown):
            ask(begins(1, 1), act(0, 0, (1, 0)), sure(0), sure(2), begins(0, 0))
        self.assertEqual(shown.getvalue(), "")


class NothingIsKept(unittest.TestCase):
    def test_what_is_handed_in_is_the_same_afterwards(self):
        calls = joined([begins(2, 2), act(0, 0, (2, 0), (2, 1)), act(0, 0), goal(2), sure(0), sure(4), begins(5, 0)])
        before = list(calls)
        answers(calls)
        self.assertEqual(calls, before)

    def test_what_is_handed_in_is_not_changed_for_a_while_either(self):
        calls = joined([begins(2, 2), act(0, 0, (2, 0), (2, 1)), act(0, 0), goal(2), sure(0), sure(4), begins(5, 0)])
        self.assertEqual(answers(Unchanging(calls)), answers(calls))

    def test_each_time_is_as_if_the_first(self):
        first = joined([begins(4, 15), act(0, 0, (15, 0)), sure(0)])
        second = joined([goal(2), sure(0), sure(1), act(0, 0, (0, 0))])
        alone = answers(second)
        self.assertEqual(answers(first), [1, 0, 1, 0, 3, 1, 0, 0])
        self.assertEqual(answers(second), alone)
        self.assertEqual(alone, [1, -1, 1, 0, 1, 0, 1, 0])
        self.assertEqual(answers(first), answers(first))

    def test_what_was_given_back_is_the_callers_own(self):
        calls = joined([begins(1, 1), act(0, 0, (1, 0)), sure(0)])
        given = answers(calls)
        given.clear()
        self.assertEqual(answers(calls), [1, 0, 1, 0, 3, 1, 0, 0])


class Unchanging(list):
    """A list that can't be changed: each way of changing one is an error here."""

    def refuse(self, *what):
        raise AssertionError("the list handed in was changed")

    append = extend = insert = pop = remove = clear = sort = reverse = refuse
    __setitem__ = __delitem__ = __iadd__ = __imul__ = refuse


if __name__ == "__main__":
    unittest.main()
