import contextlib
import io
import unittest

from lines import LARGEST, act, ask, begins, from_where, goal, hope, joined, judge, sure
from surehopes.house import UnknownCall, answers

# All seven calls, taken and refused.
EVERY_CALL = joined([
    begins(2, 2), act(0, 0, (2, 0), (2, 1)), act(0, 0), goal(2), goal(4), sure(0), sure(2), sure(4), hope(0), hope(4),
    from_where(), judge(0, (0, 0), (0, 1)), judge(0), judge(4), [6, 0, 1, 0], goal(1), sure(0), hope(0),
    judge(0, (0, 0), (2, 0)), begins(5, 0), begins(1, 1), act(0, 0, (1, 0), (0, 0)), judge(0, (0, 0)), hope(0),
])


class TheNewHouse(unittest.TestCase):
    def test_it_has_one_fact(self):
        self.assertEqual(ask(goal(1), goal(2), sure(2), act(2, 0, (0, 0))), [[0], [-1], [-1], [-1]])
        self.assertEqual(ask(hope(2), judge(2), from_where()), [[-1], [-1], [2, 2]])

    def test_nothing_is_wanted(self):
        self.assertEqual(ask(sure(0), sure(1), hope(0), hope(1), judge(0), judge(1)), [[0]] * 4 + [[2, 0]] * 2)

    def test_there_is_no_act(self):
        self.assertEqual(ask(goal(1), sure(0), act(0, 0, (1, 0)), sure(0)), [[0], [-6], [0], [1, 0, 0]])
        self.assertEqual(ask(goal(1), hope(0), from_where(), judge(0, (0, 0))), [[0], [-6], [1, 1], [3, 0]])

    def test_each_call_may_come_first(self):
        firsts = [begins(1, 0), act(0, 0, (0, 0)), goal(0), sure(0), hope(0), from_where(), judge(0)]
        self.assertEqual([ask(first) for first in firsts], [[[0]]] * 5 + [[[2, 2]], [[2, 0]]])


class TheList(unittest.TestCase):
    def test_each_answer_has_its_length_before_it(self):
        calls = [0, 2, 2, 1, 0, 1, 4, 2, 0, 1, 0, 1, 1, 0, 2, 2, 0, 3, 0, 2, 4, 3, 4, 3, 2, 1, 0, 0, 0, 1, 0, 0, 1, 0]
        given = [1, 0, 1, 0, 1, 1, 5, 2, 0, 0, 1, 1, 1, -1, 1, -1, 1, 0, 1, -1, 1, -1]
        self.assertEqual(answers(calls), given)

    def test_all_seven_calls_in_one_list(self):
        calls = [5, 6, 1, 0, 4, 0, 2, 1, 3, 0, 0, 2, 2, 1, 0, 1, 4, 2, 0, 1, 0, 1, 1, 0, 4, 2, 0, 0, 0]
        calls += [3, 0, 4, 0, 5, 6, 0, 4, 0, 0, 1, 1, 6, 0, 2, 0, 0, 6, 0, 3, 0, 0, 1, 5]
        given = [2, 2, 2, 2, 2, 0, 1, 0, 1, 0, 1, -6, 1, 0, 1, 0, 1, 1]
        given += [1, -6, 5, 1, 0, 0, 1, 1, 2, 2, 4, 1, 1, 2, 3, 1, 1, -1, 2, 2, 4]
        self.assertEqual(answers(calls), given)

    def test_every_call(self):
        given = [[0], [0], [-1], [0], [-1], [1, 0, 0], [0], [-1], [1, 0, 0], [-1], [4, 4], [2, 1], [3, 0], [-1], [-1]]
        given += [[0], [-6], [-6], [0, 0], [-1], [0], [0], [1], [1, 0, 0]]
        counted = [number for answer in given for number in [len(answer)] + answer]
        self.assertEqual(answers(EVERY_CALL), counted)

    def test_the_row_of_a_judged_rule_is_not_read_as_calls(self):
        for length in (0, 1, 2, 39, 40):
            with self.subTest(length=length):
                answered = [1, -1] if length % 2 else [2, 2, 0]
                self.assertEqual(answers([6, 1, length] + [LARGEST] * length + [3, 1]), answered + [1, 0])

    def test_the_row_of_a_refused_act_is_not_read_as_calls(self):
        for length in (0, 1, 7, 8, 39, 40):
            with self.subTest(length=length):
                self.assertEqual(answers([1, 0, 0, length] + [LARGEST] * length + [3, 1]), [1, -1, 1, 0])

    def test_the_row_of_an_act_without_room_is_not_read_as_calls(self):
        calls = joined([act(0, 0, (0, 0))] * 6) + [1, 0, 0, 40] + [2] * 40 + [3, 0]
        self.assertEqual(answers(calls)[12:], [1, -7, 1, 0])

    def test_sixty_calls(self):
        self.assertEqual(answers([3, 0] * 60), [1, 0] * 60)

    def test_a_long_list(self):
        calls = [1, 0, 0, 40] + [0] * 40
        self.assertEqual(answers(calls * 60), [1, -1] * 60)
        calls = [6, 1, 40] + [0] * 40
        self.assertEqual(answers(calls * 60), [2, 2, 0] * 60)

    def test_what_is_answered_is_int_alone(self):
        given = answers(EVERY_CALL)
        self.assertIs(type(given), list)
        self.assertEqual({type(number) for number in given}, {int})

    def test_nothing_is_printed(self):
        shown = io.StringIO()
        with contextlib.redirect_stdout(shown), contextlib.redirect_stderr(shown):
            answers(EVERY_CALL)
        self.assertEqual(shown.getvalue(), "")


class NothingIsKept(unittest.TestCase):
    def test_what_is_handed_in_is_the_same_afterwards(self):
        calls = list(EVERY_CALL)
        answers(calls)
        self.assertEqual(calls, EVERY_CALL)

    def test_what_is_handed_in_is_not_changed_for_a_while_either(self):
        self.assertEqual(answers(Unchanging(EVERY_CALL)), answers(EVERY_CALL))

    def test_each_time_is_as_if_the_first(self):
        first = joined([begins(4, 15), act(0, 0, (15, 0)), sure(0)])
        second = joined([goal(2), sure(0), sure(1), act(0, 0, (0, 0))])
        alone = answers(second)
        self.assertEqual(answers(first), [1, 0, 1, 0, 3, 1, 0, 0])
        self.assertEqual(answers(second), alone)
        self.assertEqual(alone, [1, -1, 1, 0, 1, 0, 1, 0])
        self.assertEqual(answers(first), answers(first))

    def test_what_is_only_asked_changes_nothing(self):
        # From 0 act 0 may be tried again; act 1 may lead to 2, where there is no way.
        house = [begins(3, 4), act(0, 3, (4, 0), (0, 0)), act(0, 3, (4, 0), (2, 0)), act(1, 2, (4, 0))]
        rules = [judge(0, (0, 0)), judge(0, (0, 1)), judge(1, (1, 2), (0, 0)), judge(9), [6, 0, 1, 0]]
        asked = [hope(0), hope(1), hope(2), hope(8), from_where(), sure(0), sure(1), *rules]
        expected = [[1, 0, 0], [1, 1, 2], [-6], [-1], [5, 6], [-6], [1, 1, 2], [1], [3, 2], [2, 1], [-1], [-1]]
        self.assertEqual(ask(*house, *asked)[4:], expected)
        for one in asked:
            with self.subTest(one=one):
                self.assertEqual(ask(*house, one, *asked)[5:], expected)
        self.assertEqual(ask(*house, *asked, *asked, act(0, 0, (0, 0)), goal(8), goal(2))[-3:], [[3], [-1], [0]])

    def test_what_was_given_back_is_the_callers_own(self):
        calls = joined([begins(1, 1), act(0, 0, (1, 0)), sure(0)])
        given = answers(calls)
        given.clear()
        self.assertEqual(answers(calls), [1, 0, 1, 0, 3, 1, 0, 0])


class CallsThatThereAreNot(unittest.TestCase):
    def test_it_is_told_by_an_error(self):
        for number in (7, 8, LARGEST):
            with self.subTest(number=number):
                with self.assertRaises(UnknownCall):
                    answers([5, number, 0, 0])


class Unchanging(list):
    """A list that can't be changed: each way of changing one is an error here."""

    def refuse(self, *what):
        raise AssertionError("the list handed in was changed")

    append = extend = insert = pop = remove = clear = sort = reverse = refuse
    __setitem__ = __delitem__ = __iadd__ = __imul__ = refuse


if __name__ == "__main__":
    unittest.main()
