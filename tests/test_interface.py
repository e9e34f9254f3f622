import builtins
import contextlib
import io
import unittest
from unittest import mock

from partsworld.things import answers
from tests.helper import TOP, gone, get, joined, later, make, parts, put, take

EACH = [make(1, 5, 2, 6), put(0, 0, 3, 7), take(0, 0, 1), get(0, 0, 2), parts(0, 0), later(0, 9, 1, 2), gone(0, 0)]
REFUSED = [make(16, 0), gone(0, 0), put(0, 0, 16, 0), put(0, 0, 1, 1), take(0, 0, 1), get(0, 0, 1), parts(0, 0),
           later(4, 1, 16, 0)]


def refuse(*given, **named):
    raise AssertionError("this must not be called")


class Untouchable(list):
    """A list that fails as soon as somebody changes it."""

    __setitem__ = __delitem__ = __iadd__ = __imul__ = refuse
    append = clear = extend = insert = pop = remove = reverse = sort = refuse


class Written(unittest.TestCase):
    """The lists as they are handed in and given back, number by number."""

    def test_make(self):
        self.assertEqual(answers([0, 0]), [2, 0, 0])
        self.assertEqual(answers([0, 4, 1, 5, 2, 6]), [2, 0, 0])
        self.assertEqual(answers([0, 2, 16, 0]), [1, -1])

    def test_gone(self):
        self.assertEqual(answers([0, 0, 1, 0, 0]), [2, 0, 0, 1, 0])
        self.assertEqual(answers([1, 0, 0]), [1, -2])

    def test_put(self):
        self.assertEqual(answers([0, 0, 2, 0, 0, 3, 7]), [2, 0, 0, 1, 0])
        self.assertEqual(answers([2, 0, 0, 3, 7]), [1, -2])
        self.assertEqual(answers([2, 0, 0, 3, 10000]), [1, -1])

    def test_take(self):
        self.assertEqual(answers([0, 2, 3, 7, 3, 0, 0, 3]), [2, 0, 0, 1, 0])
        self.assertEqual(answers([3, 0, 0, 3]), [1, -2])
        self.assertEqual(answers([0, 2, 3, 7, 3, 0, 0, 4]), [2, 0, 0, 1, -3])

    def test_get(self):
        self.assertEqual(answers([0, 2, 3, 7, 4, 0, 0, 3]), [2, 0, 0, 1, 7])
        self.assertEqual(answers([4, 0, 0, 3]), [1, -2])
        self.assertEqual(answers([0, 2, 3, 7, 4, 0, 0, 4]), [2, 0, 0, 1, -3])

    def test_parts(self):
        self.assertEqual(answers([0, 4, 1, 5, 2, 6, 5, 0, 0]), [2, 0, 0, 5, 2, 1, 5, 2, 6])
        self.assertEqual(answers([0, 0, 5, 0, 0]), [2, 0, 0, 1, 0])
        self.assertEqual(answers([5, 0, 0]), [1, -2])

    def test_later(self):
        self.assertEqual(answers([6, 4, 0, 9, 1, 2]), [1, 1])
        self.assertEqual(answers([6, 2, 5, 9, 6, 3, 1, 0, 0]), [1, 1, 1, 2])
        self.assertEqual(answers([6, 4, 3, 0, 0, 16]), [1, -1])

    def test_place_and_turn_stand_in_that_order(self):
        calls = joined([make(), make(), gone(0, 0), make(), gone(0, 1), make(), parts(0, 2), parts(2, 0)])
        self.assertEqual(answers(calls)[-7:], [2, 0, 2, 1, 0, 1, -2])

    def test_each_call_in_one_list(self):
        wanted = [2, 0, 0, 1, 0, 1, 0, 1, 6, 5, 2, 2, 6, 3, 7, 1, 1, 1, 0]
        self.assertEqual(answers(joined(EACH)), wanted)

    def test_each_refusal_in_one_list(self):
        self.assertEqual(answers(joined(REFUSED)), [1, -1, 1, -2, 1, -1, 1, -2, 1, -2, 1, -2, 1, -2, 1, -1])

    def test_calls_behind_a_refusal_are_answered(self):
        calls = joined([make(16, 0, 2, 3), make(1, 4), later(0, 9, 16, 2), get(0, 0, 1)])
        self.assertEqual(answers(calls), [1, -1, 2, 0, 0, 1, -1, 1, 4])


class Forty(unittest.TestCase):
    def test_40_calls(self):
        calls = [make(3, number) for number in range(20)] + [get(place, 0, 3) for place in range(20)]
        wanted = [[2, place, 0] for place in range(20)] + [[1, place] for place in range(20)]
        self.assertEqual(answers(joined(calls)), joined(wanted))

    def test_40_of_the_longest_calls(self):
        rising = [number for kind in range(20) for number in (kind, TOP)]
        self.assertEqual(answers(joined([make(*rising)] * 40)), [1, -1] * 40)
        self.assertEqual(answers(joined([later(0, TOP, *rising)] * 40)), [1, -1] * 40)

    def test_40_of_the_longest_answers(self):
        every = [number for kind in range(16) for number in (kind, 9999)]
        calls = [make(*every)] + [parts(0, 0)] * 39
        self.assertEqual(answers(joined(calls)), [2, 0, 0] + [33, 16, *every] * 39)

    def test_40_put_off(self):
        wanted = [[1, number] for number in range(1, 31)] + [[1, -5]] * 10
        self.assertEqual(answers(joined([later(1, 0, 0)] * 40)), joined(wanted))


class HandedIn(unittest.TestCase):
    def test_the_list_is_the_same_afterwards(self):
        for calls in (EACH, REFUSED, [make(1, 5), put(0, 0, 1, 6), later(0, 2, 3, 4)] * 10):
            handed = joined(calls)
            answers(handed)
            self.assertEqual(handed, joined(calls))

    def test_the_list_is_not_changed_for_a_while_either(self):
        calls = joined(EACH + REFUSED)
        self.assertEqual(answers(Untouchable(calls)), answers(calls))

    def test_what_is_given_back_is_another_list_each_time(self):
        handed = joined(EACH)
        first = answers(handed)
        wanted = list(first)
        first.clear()
        self.assertEqual(handed, joined(EACH))
        self.assertEqual(answers(handed), wanted)


class NothingKept(unittest.TestCase):
    def test_a_second_time_begins_with_no_things(self):
        for number in range(3):
            self.assertEqual(answers(joined([parts(0, 0), make(1, 5)])), [1, -2, 2, 0, 0])

    def test_a_second_time_begins_with_no_turns(self):
        for number in range(3):
            self.assertEqual(answers(joined([make(), gone(0, 0), make()])), [2, 0, 0, 1, 0, 2, 0, 1])

    def test_a_second_time_begins_with_nothing_put_off(self):
        for number in range(3):
            self.assertEqual(answers(joined([later(5, 0)] * 31))[-4:], [1, 30, 1, -5])

    def test_a_second_time_begins_with_room_for_20(self):
        for number in range(3):
            self.assertEqual(answers(joined([make()] * 21))[-5:], [2, 19, 0, 1, -5])


class Plain(unittest.TestCase):
    def test_a_list_of_whole_numbers_is_given_back(self):
        told = answers(joined(EACH + REFUSED))
        self.assertIs(type(told), list)
        self.assertEqual({type(number) for number in told}, {int})

    def test_it_prints_reads_and_imports_nothing(self):
        calls = joined(EACH + REFUSED)
        wanted = answers(calls)
        printed = io.StringIO()
        with contextlib.redirect_stdout(printed), contextlib.redirect_stderr(printed):
            with mock.patch.object(builtins, "open", refuse), mock.patch.object(builtins, "input", refuse):
                with mock.patch.object(builtins, "__import__", refuse):
                    told = answers(calls)
        self.assertEqual(told, wanted)
        self.assertEqual(printed.getvalue(), "")


if __name__ == "__main__":
    unittest.main()
