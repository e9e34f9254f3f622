import builtins
import contextlib
import io
import unittest
from unittest import mock

from partsworld.things import answers
from tests.helper import (TOP, apply, ask, count, fresh, get, gone, joined, keep, later, make, parts, put, split,
                          sum_of, take)

EACH = [make(1, 5, 2, 6), put(0, 0, 3, 7), take(0, 0, 1), get(0, 0, 2), parts(0, 0), later(0, 9, 1, 2), keep([1]),
        apply(), ask([], [], [1, 2]), fresh(0), sum_of(1, [], [2]), gone(0, 0), count()]
REFUSED = [make(16, 0), gone(0, 0), put(0, 0, 16, 0), put(0, 0, 1, 1), take(0, 0, 1), get(0, 0, 1), parts(0, 0),
           later(4, 1, 16, 0), ask([16]), keep([], [16]), fresh(0), sum_of(1, [], [], [16]),
           *[later(0, 1)] * 21, apply()]
TWENTY = [make() for number in range(20)]

# All thirteen calls, and after every one of them what there is.
FORTY = [
    (make(1, 5), [0, 0]), (make(2, 6), [1, 0]), (make(1, 7, 2, 8), [2, 0]), (count(), [3, 0, 0]),
    (keep([1]), [0]), (keep([], [1]), [1]), (fresh(0), [2, 0, 0, 2, 0, 0]), (fresh(1), [1, 1, 0, 0]),
    (ask([1, 2]), [1, 2, 0]), (sum_of(2, [], [], [1, 2]), [2, 14]), (get(2, 0, 2), [8]), (put(1, 0, 1, 9), [0]),
    (take(0, 0, 1), [0]), (take(0, 0, 1), [-3]), (fresh(0), [1, 1, 0, 1, 0, 0]), (parts(1, 0), [2, 1, 9, 2, 6]),
    (later(0, 70, 1, 100), [1]), (later(1, 1, 0), [2]), (later(0, 80), [3]), (later(4, 80, 1, 200), [4]),
    (later(2, 0, 0, 16, 0), [-1]), (later(5, 70), [5]), (later(3, 2, 0, 1), [6]), (count(), [3, 6, 0]),
    (apply(), [3, 2, 70, 3, 0, 80, 1, 1]), (fresh(0), [1, 1, 1, 2, 1, 0, 2, 0]), (parts(1, 0), [-2]),
    (parts(1, 1), [1, 1, 200]), (fresh(1), [2, 0, 0, 2, 0, 1, 1, 0]), (count(), [3, 0, 2]), (gone(2, 0), [2]),
    (gone(2, 0), [-2]), (make(16, 0), [-1]), (make(), [2, 1]), (fresh(1), [1, 2, 1, 1, 2, 0]), (fresh(2), [-2]),
    (ask(range(13)), [-1]), (sum_of(TOP), [0, 0]), (apply(), [3, 0]), (count(), [3, 0, 3])]


def refuse(*given, **named):
    raise AssertionError("this must not be called")


class Untouchable(list):
    """A list that fails as soon as somebody changes it."""

    __setitem__ = __delitem__ = __iadd__ = __imul__ = refuse
    append = clear = extend = insert = pop = remove = reverse = sort = refuse


class Written(unittest.TestCase):
    """The lists as they are handed in and given back, number by number."""

    def test_make(self):
        self.assertEqual(answers([0, 0]), [2, 0, 0])
        self.assertEqual(answers([0, 4, 1, 5, 2, 6]), [2, 0, 0])
        self.assertEqual(answers([0, 2, 16, 0]), [1, -1])

    def test_gone(self):
        self.assertEqual(answers([0, 0, 1, 0, 0]), [2, 0, 0, 1, 0])
        self.assertEqual(answers([1, 0, 0]), [1, -2])

    def test_put(self):
        self.assertEqual(answers([0, 0, 2, 0, 0, 3, 7]), [2, 0, 0, 1, 0])
        self.assertEqual(answers([2, 0, 0, 3, 7]), [1, -2])
        self.assertEqual(answers([2, 0, 0, 3, 10000]), [1, -1])

    def test_take(self):
        self.assertEqual(answers([0, 2, 3, 7, 3, 0, 0, 3]), [2, 0, 0, 1, 0])
        self.assertEqual(answers([3, 0, 0, 3]), [1, -2])
        self.assertEqual(answers([0, 2, 3, 7, 3, 0, 0, 4]), [2, 0, 0, 1, -3])

    def test_get(self):
        self.assertEqual(answers([0, 2, 3, 7, 4, 0, 0, 3]), [2, 0, 0, 1, 7])
        self.assertEqual(answers([4, 0, 0, 3]), [1, -2])
        self.assertEqual(answers([0, 2, 3, 7, 4, 0, 0, 4]), [2, 0, 0, 1, -3])

    def test_parts(self):
        self.assertEqual(answers([0, 4, 1, 5, 2, 6, 5, 0, 0]), [2, 0, 0, 5, 2, 1, 5, 2, 6])
        self.assertEqual(answers([0, 0, 5, 0, 0]), [2, 0, 0, 1, 0])
        self.assertEqual(answers([5, 0, 0]), [1, -2])

    def test_later(self):
        self.assertEqual(answers([6, 4, 0, 9, 1, 2]), [1, 1])
        self.assertEqual(answers([6, 2, 5, 9, 6, 3, 1, 0, 0]), [1, 1, 1, 2])
        self.assertEqual(answers([6, 4, 3, 0, 0, 16]), [1, -1])

    def test_apply(self):
        self.assertEqual(answers([7]), [2, 0, 0])
        self.assertEqual(answers([6, 4, 0, 9, 1, 2, 6, 2, 0, 8, 7]), [1, 1, 1, 2, 8, 2, 2, 9, 0, 0, 8, 1, 0])
        self.assertEqual(answers([6, 2, 0, 9] * 21 + [7])[-2:], [1, -5])

    def test_ask(self):
        self.assertEqual(answers([8, 0, 0, 0]), [1, 0])
        self.assertEqual(answers([0, 2, 1, 5, 0, 2, 2, 5, 8, 0, 0, 0])[6:], [5, 2, 0, 0, 1, 0])
        self.assertEqual(answers([0, 2, 1, 5, 0, 2, 2, 5, 8, 1, 1, 1, 3, 2, 2, 1])[6:], [3, 1, 0, 0])
        self.assertEqual(answers([0, 2, 1, 5, 0, 2, 2, 5, 8, 0, 1, 1, 1, 2])[6:], [3, 1, 1, 0])
        self.assertEqual(answers([8, 1, 16, 0, 0]), [1, -1])

    def test_keep(self):
        self.assertEqual(answers([9, 0, 0, 0, 9, 2, 1, 2, 1, 3, 1, 4]), [1, 0, 1, 1])
        self.assertEqual(answers([9, 0, 0, 1, 16]), [1, -1])
        self.assertEqual(answers([9, 0, 0, 0] * 7)[-4:], [1, 5, 1, -5])

    def test_fresh(self):
        self.assertEqual(answers([9, 0, 0, 0, 10, 0]), [1, 0, 2, 0, 0])
        calls = [0, 0, 9, 0, 0, 0, 10, 0, 1, 0, 0, 0, 0, 10, 0]
        self.assertEqual(answers(calls), [2, 0, 0, 1, 0, 4, 1, 0, 0, 0, 1, 0, 2, 0, 1, 6, 1, 0, 1, 1, 0, 0])
        self.assertEqual(answers([10, 0]), [1, -2])

    def test_sum(self):
        self.assertEqual(answers([11, 1, 0, 0, 0]), [2, 0, 0])
        self.assertEqual(answers([0, 2, 3, 5, 0, 2, 3, 6, 11, 3, 1, 3, 1, 4, 1, 3])[6:], [2, 2, 11])
        self.assertEqual(answers([11, 1, 0, 1, 16, 0]), [1, -1])

    def test_count(self):
        self.assertEqual(answers([12]), [3, 0, 0, 0])
        self.assertEqual(answers([0, 0, 0, 0, 0, 0, 1, 1, 0, 6, 2, 5, 7, 12])[-4:], [3, 2, 1, 1])

    def test_the_three_lists_of_a_question_stand_in_that_order(self):
        calls = joined([make(1, 10), make(1, 20, 3, 0), make(1, 40, 2, 0), make(3, 80)])
        for question, wanted in (([1, 1, 1, 2, 1, 3], 1), ([1, 1, 1, 3, 1, 2], 2), ([1, 3, 1, 1, 0], 3)):
            self.assertEqual(answers(calls + [8, *question])[12:], [3, 1, wanted, 0])
            self.assertEqual(answers(calls + [9, *question, 10, 0])[12:], [1, 0, 4, 1, wanted, 0, 0])
            self.assertEqual(answers(calls + [11, 1, *question])[12:], [2, *[(1, 20), (1, 40), (0, 0)][wanted - 1]])

    def test_place_and_turn_stand_in_that_order(self):
        calls = joined([make(), make(), gone(0, 0), make(), gone(0, 1), make(), parts(0, 2), parts(2, 0)])
        self.assertEqual(answers(calls)[-7:], [2, 0, 2, 1, 0, 1, -2])

    def test_each_call_in_one_list(self):
        wanted = [2, 0, 0, 1, 0, 1, 0, 1, 6, 5, 2, 2, 6, 3, 7, 1, 1, 1, 0, 5, 2, 1, 9, 1, 0, 5, 2, 0, 0, 1, 0,
                  4, 1, 1, 0, 0, 2, 1, 2, 1, 1, 3, 1, 0, 1]
        self.assertEqual(answers(joined(EACH)), wanted)

    def test_each_refusal_in_one_list(self):
        wanted = [1, -1, 1, -2, 1, -1, 1, -2, 1, -2, 1, -2, 1, -2, 1, -1, 1, -1, 1, -1, 1, -2, 1, -1]
        put_off = [number for size in range(1, 22) for number in (1, size)]
        self.assertEqual(answers(joined(REFUSED)), wanted + put_off + [1, -5])

    def test_calls_behind_a_refusal_are_answered(self):
        calls = joined([make(16, 0, 2, 3), make(1, 4), later(0, 9, 16, 2), get(0, 0, 1)])
        self.assertEqual(answers(calls), [1, -1, 2, 0, 0, 1, -1, 1, 4])


class Forty(unittest.TestCase):
    def test_40_calls(self):
        calls = [make(3, number) for number in range(20)] + [get(place, 0, 3) for place in range(20)]
        wanted = [[2, place, 0] for place in range(20)] + [[1, place] for place in range(20)]
        self.assertEqual(answers(joined(calls)), joined(wanted))

    def test_40_of_the_longest_calls(self):
        rising = [number for kind in range(20) for number in (kind, TOP)]
        self.assertEqual(answers(joined([make(*rising)] * 40)), [1, -1] * 40)
        self.assertEqual(answers(joined([later(0, TOP, *rising)] * 40)), [1, -1] * 40)

    def test_40_of_the_longest_answers(self):
        every = [number for kind in range(16) for number in (kind, 9999)]
        calls = [make(*every)] + [parts(0, 0)] * 39
        self.assertEqual(answers(joined(calls)), [2, 0, 0] + [33, 16, *every] * 39)

    def test_40_of_the_longest_questions(self):
        question = ([TOP] * 16, range(16), [15] * 16)
        for call in (ask(*question), keep(*question), sum_of(TOP, *question)):
            self.assertEqual(answers(joined([call] * 40)), [1, -1] * 40)

    def test_all_thirteen_mixed(self):
        self.assertEqual({call[0] for call, wanted in FORTY}, set(range(13)))
        self.assertEqual(split(answers(joined([call for call, wanted in FORTY]))), [wanted for call, wanted in FORTY])

    def test_each_beginning_of_them_is_answered_alike(self):
        for size in range(1, 41):
            calls = [call for call, wanted in FORTY[:size]]
            wanted = [[len(wanted), *wanted] for call, wanted in FORTY[:size]]
            self.assertEqual(answers(joined(calls)), joined(wanted))

    def test_20_names_20_times(self):
        names = [number for place in range(20) for number in (place, 0)]
        calls = TWENTY + [ask([], [1])] * 20
        self.assertEqual(answers(joined(calls))[60:], [41, 20, *names] * 20)

    def test_40_counts(self):
        self.assertEqual(answers([12] * 40), [3, 0, 0, 0] * 40)
        self.assertEqual(answers([7] * 40), [2, 0, 0] * 40)

    def test_40_put_off(self):
        wanted = [[1, number] for number in range(1, 31)] + [[1, -5]] * 10
        self.assertEqual(answers(joined([later(1, 0, 0)] * 40)), joined(wanted))


class HandedIn(unittest.TestCase):
    def test_the_list_is_the_same_afterwards(self):
        words = [later(0, 7, 1, 5), later(4, 7, 1, 6), later(4, 7, 2, 7), apply()]
        for calls in (EACH, REFUSED, words * 10, [make(1, 5), put(0, 0, 1, 6), later(0, 2, 3, 4)] * 10,
                      [call for call, wanted in FORTY], [keep([1, 2], [3], [4, 5]), fresh(0)] * 20):
            handed = joined(calls)
            answers(handed)
            self.assertEqual(handed, joined(calls))

    def test_the_list_is_not_changed_for_a_while_either(self):
        for calls in (joined(EACH), joined(REFUSED), joined([call for call, wanted in FORTY])):
            self.assertEqual(answers(Untouchable(calls)), answers(calls))

    def test_what_is_given_back_is_another_list_each_time(self):
        handed = joined(EACH)
        first = answers(handed)
        wanted = list(first)
        first.clear()
        self.assertEqual(handed, joined(EACH))
        self.assertEqual(answers(handed), wanted)


class NothingKept(unittest.TestCase):
    def test_a_second_time_begins_with_no_things(self):
        for number in range(3):
            self.assertEqual(answers(joined([parts(0, 0), make(1, 5)])), [1, -2, 2, 0, 0])

    def test_a_second_time_begins_with_no_turns(self):
        for number in range(3):
            self.assertEqual(answers(joined([make(), gone(0, 0), make()])), [2, 0, 0, 1, 0, 2, 0, 1])

    def test_a_second_time_begins_with_nothing_put_off(self):
        for number in range(3):
            self.assertEqual(answers(joined([later(5, 0)] * 31))[-4:], [1, 30, 1, -5])

    def test_a_second_time_counts_nothing(self):
        for number in range(3):
            calls = joined([count(), make(), make(), gone(0, 0), later(5, 0), count()])
            self.assertEqual(split(answers(calls))[::5], [[0, 0, 0], [1, 1, 1]])

    def test_a_second_time_begins_with_nothing_to_do(self):
        for number in range(3):
            self.assertEqual(answers(joined([apply(), later(0, 7)])), [2, 0, 0, 1, 1])

    def test_a_second_time_begins_with_no_word(self):
        for number in range(3):
            calls = joined([make(), later(4, 7, 1, 1), apply(), ask([1]), later(0, 7), apply()])
            self.assertEqual(split(answers(calls))[3], [0])

    def test_a_second_time_begins_with_nothing_kept(self):
        for number in range(3):
            calls = joined([fresh(0), make(), keep(), fresh(0), fresh(1)])
            self.assertEqual(split(answers(calls)), [[-2], [0, 0], [0], [1, 0, 0, 0], [-2]])

    def test_a_second_time_begins_with_room_for_6(self):
        for number in range(3):
            self.assertEqual(answers(joined([keep()] * 7))[-4:], [1, 5, 1, -5])

    def test_a_long_list_is_answered_alike_again_and_again(self):
        for number in range(3):
            for calls in ([call for call, wanted in FORTY], EACH, REFUSED):
                first = answers(joined(calls))
                self.assertEqual(answers(joined(calls)), first)

    def test_a_second_time_begins_with_room_for_20(self):
        for number in range(3):
            self.assertEqual(answers(joined([make()] * 21))[-5:], [2, 19, 0, 1, -5])


class Plain(unittest.TestCase):
    def test_a_list_of_whole_numbers_is_given_back(self):
        for calls in (EACH, REFUSED, [call for call, wanted in FORTY]):
            told = answers(joined(calls))
            self.assertIs(type(told), list)
            self.assertEqual({type(number) for number in told}, {int})

    def test_it_prints_reads_and_imports_nothing(self):
        calls = joined([call for call, wanted in FORTY])
        wanted = answers(calls)
        printed = io.StringIO()
        with contextlib.redirect_stdout(printed), contextlib.redirect_stderr(printed):
            with mock.patch.object(builtins, "open", refuse), mock.patch.object(builtins, "input", refuse):
                with mock.patch.object(builtins, "__import__", refuse):
                    told = answers(calls)
        self.assertEqual(told, wanted)
        self.assertEqual(printed.getvalue(), "")


if __name__ == "__main__":
    unittest.main()
