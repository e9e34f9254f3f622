import unittest

from tests.helper import (TOP, apply, ask, count, fresh, get, gone, keep, last, later, make, parts, put, run, sum_of,
                          take)

# Places: 0 has nothing, 1 has kind 1, 2 has kind 2, 3 has 1 and 2, 4 has 1, 2 and 3, 5 has 3.
SIX = [make(), make(1, 10), make(2, 20), make(1, 11, 2, 21), make(1, 12, 2, 22, 3, 32), make(3, 33)]

# The three lists of a question that is refused.
REFUSED = [
    (list(range(13)), [], []), ([], list(range(13)), []), ([], [], list(range(13))),
    ([0, 1, 2, 3, 4], [5, 6, 7, 8], [9, 10, 11, 12]), ([0, 1, 2, 3], [5, 6, 7, 8, 9], [9, 10, 11, 12]),
    ([0, 1, 2, 3], [5, 6, 7, 8], [9, 10, 11, 12, 13]), ([1] * 12, [2], []), ([], [1] * 12, [2]), ([2], [], [1] * 12),
    ([1] * 13, [], []), ([], [1] * 13, []), ([], [], [1] * 13), ([1] * 5, [1] * 4, [1] * 4),
    (list(range(16)), list(range(16)), list(range(16))), ([TOP] * 16, [TOP] * 16, [TOP] * 16),
    ([16], [], []), ([], [16], []), ([], [], [16]), ([TOP], [], []), ([], [TOP], []), ([], [], [TOP]),
    ([16, 1], [], []), ([1, 16], [], []), ([1], [2, 16], [3]), ([1], [2], [16, 3]), ([16], [2], [3]),
    ([16] * 13, [], []), ([9999], [], [])]

# The three lists of a question that just isn't.
TAKEN = [
    (list(range(12)), [], []), ([], list(range(12)), []), ([], [], list(range(12))),
    ([0, 1, 2, 3], [4, 5, 6, 7], [8, 9, 10, 11]), ([1] * 12, [], []), ([], [1] * 12, []), ([], [], [1] * 12),
    ([15], [], []), ([], [15], []), ([], [], [15]), ([15] * 4, [15] * 4, [15] * 4), ([], [], [])]


class Fits(unittest.TestCase):
    def assert_told(self, places, *question):
        names = [number for place in places for number in (place, 0)]
        self.assertEqual(last(*SIX, ask(*question)), [len(places), *names])

    def test_no_kinds_at_all(self):
        self.assert_told([0, 1, 2, 3, 4, 5], [], [], [])

    def test_kinds_it_must_have(self):
        self.assert_told([1, 3, 4], [1], [], [])
        self.assert_told([3, 4], [1, 2], [], [])
        self.assert_told([4], [1, 2, 3], [], [])
        self.assert_told([], [1, 2, 3, 4], [], [])

    def test_kinds_it_must_not_have(self):
        self.assert_told([0, 2, 5], [], [1], [])
        self.assert_told([0, 5], [], [1, 2], [])
        self.assert_told([0], [], [1, 2, 3], [])
        self.assert_told([0, 1, 2, 3, 4, 5], [], [4], [])

    def test_kinds_of_which_it_must_have_one(self):
        self.assert_told([1, 3, 4], [], [], [1])
        self.assert_told([1, 2, 3, 4], [], [], [1, 2])
        self.assert_told([1, 2, 3, 4, 5], [], [], [1, 2, 3])
        self.assert_told([4, 5], [], [], [0, 3, 15])
        self.assert_told([], [], [], [4, 5])

    def test_must_and_must_not(self):
        self.assert_told([1], [1], [2], [])
        self.assert_told([3], [1, 2], [3], [])

    def test_must_and_one_of(self):
        self.assert_told([3, 4], [1], [], [2, 3])
        self.assert_told([4], [2], [], [3])

    def test_must_not_and_one_of(self):
        self.assert_told([1, 2, 3], [], [3], [1, 2])
        self.assert_told([5], [], [1], [3])

    def test_all_three(self):
        self.assert_told([3], [1], [3], [2, 4])
        self.assert_told([4], [2], [4], [3, 5])
        self.assert_told([], [2], [1], [3])

    def test_a_kind_told_twice(self):
        self.assert_told([1, 3, 4], [1, 1], [], [])
        self.assert_told([0, 2, 5], [], [1, 1], [])
        self.assert_told([1, 3, 4], [], [], [1, 1])

    def test_a_kind_that_it_must_and_must_not_have(self):
        self.assert_told([], [1], [1], [])
        self.assert_told([], [1, 2], [3, 2], [])

    def test_a_kind_in_one_of_that_is_told_elsewhere_too(self):
        self.assert_told([1, 3, 4], [1], [], [1])
        self.assert_told([3, 4], [1], [], [2])
        self.assert_told([], [], [1], [1])
        self.assert_told([2], [], [1], [1, 2])

    def test_kinds_in_any_order(self):
        self.assert_told([4], [3, 1, 2], [], [])
        self.assert_told([0], [], [3, 1, 2], [])
        self.assert_told([1, 2, 3, 4, 5], [], [], [3, 2, 1])

    def test_lowest_and_highest_kind(self):
        calls = [make(0, 0), make(15, 0), make(0, 0, 15, 0)]
        self.assertEqual(last(*calls, ask([0])), [2, 0, 0, 2, 0])
        self.assertEqual(last(*calls, ask([15])), [2, 1, 0, 2, 0])
        self.assertEqual(last(*calls, ask([], [0])), [1, 1, 0])
        self.assertEqual(last(*calls, ask([], [15])), [1, 0, 0])
        self.assertEqual(last(*calls, ask([], [], [15, 0])), [3, 0, 0, 1, 0, 2, 0])

    def test_twelve_kinds(self):
        twelve = [number for kind in range(12) for number in (kind, 1)]
        eleven = twelve[:22]
        calls = [make(*twelve), make(*eleven), make(11, 1), make(12, 1)]
        self.assertEqual(last(*calls, ask(range(12))), [1, 0, 0])
        self.assertEqual(last(*calls, ask([], range(12))), [1, 3, 0])
        self.assertEqual(last(*calls, ask([], [], range(12))), [3, 0, 0, 1, 0, 2, 0])
        self.assertEqual(last(*calls, ask(range(4), range(12, 16), range(11, 7, -1))), [2, 0, 0, 1, 0])


class Ask(unittest.TestCase):
    def test_in_a_world_without_things(self):
        self.assertEqual(last(ask()), [0])
        self.assertEqual(last(ask([1], [2], [3])), [0])
        self.assertEqual(last(make(), gone(0, 0), ask()), [0])

    def test_by_their_places_and_not_by_their_age(self):
        calls = [make(), make(), make(), gone(1, 0), gone(0, 0), make(), make(), gone(0, 1), make(), ask()]
        self.assertEqual(last(*calls), [3, 0, 2, 1, 1, 2, 0])

    def test_only_what_lives(self):
        self.assertEqual(last(make(1, 1), make(1, 1), make(1, 1), gone(1, 0), ask([1])), [2, 0, 0, 2, 0])

    def test_20_things(self):
        names = [number for place in range(20) for number in (place, 0)]
        self.assertEqual(last(*[make()] * 20, ask()), [20, *names])

    def test_parts_put_on_and_taken_off(self):
        calls = [make(1, 5), put(0, 0, 2, 6), ask([2]), take(0, 0, 1), ask([1]), ask([], [1]), ask([2])]
        self.assertEqual(run(*calls)[2:], [[1, 0, 0], [0], [0], [1, 0, 0], [1, 0, 0]])

    def test_a_value_of_0_is_a_part_too(self):
        self.assertEqual(run(make(1, 0), ask([1]), ask([], [1]), ask([], [], [1]))[1:], [[1, 0, 0], [0], [1, 0, 0]])

    def test_what_is_put_off_is_not_told(self):
        calls = [make(), later(0, 7, 1, 5), later(2, 0, 0, 1, 5), ask([1]), apply(), ask([1])]
        self.assertEqual(run(*calls)[3:], [[0], [2, 1, 7, 1, 0], [2, 0, 0, 1, 0]])

    def test_it_changes_nothing(self):
        calls = [make(1, 5), later(5, 0), ask([1]), ask([1]), ask([16]), parts(0, 0), count(), keep()]
        self.assertEqual(run(*calls)[2:], [[1, 0, 0], [1, 0, 0], [-1], [1, 1, 5], [1, 1, 0], [0]])


class Refusals(unittest.TestCase):
    """ask, keep and sum refuse the same questions."""

    def test_what_is_refused(self):
        for question in REFUSED:
            with self.subTest(question=question):
                calls = [make(1, 5), ask(*question), keep(*question), sum_of(1, *question), fresh(0), count()]
                self.assertEqual(run(*calls)[1:], [[-1], [-1], [-1], [-2], [1, 0, 0]])

    def test_what_is_not(self):
        for question in TAKEN:
            with self.subTest(question=question):
                calls = [ask(*question), keep(*question), sum_of(1, *question), fresh(0)]
                self.assertEqual(run(*calls), [[0], [0], [0, 0], [0, 0]])

    def test_calls_behind_a_refusal_are_read_rightly(self):
        for question in REFUSED:
            with self.subTest(question=question):
                calls = [ask(*question), make(1, 5), sum_of(16, *question), get(0, 0, 1), keep(*question), count()]
                self.assertEqual(run(*calls), [[-1], [0, 0], [-1], [5], [-1], [1, 0, 0]])


class Sum(unittest.TestCase):
    def test_how_many_have_that_kind_and_their_sum(self):
        self.assertEqual(last(*SIX, sum_of(1)), [3, 33])
        self.assertEqual(last(*SIX, sum_of(2)), [3, 63])
        self.assertEqual(last(*SIX, sum_of(3)), [2, 65])

    def test_only_of_what_the_question_tells(self):
        self.assertEqual(last(*SIX, sum_of(1, [2])), [2, 23])
        self.assertEqual(last(*SIX, sum_of(1, [], [3])), [2, 21])
        self.assertEqual(last(*SIX, sum_of(2, [], [], [1, 3])), [2, 43])
        self.assertEqual(last(*SIX, sum_of(2, [1], [3], [2])), [1, 21])

    def test_those_told_without_that_kind_do_not_count(self):
        self.assertEqual(last(*SIX, sum_of(3, [1])), [1, 32])
        self.assertEqual(last(*SIX, sum_of(1, [], [1])), [0, 0])

    def test_a_kind_that_no_thing_has(self):
        for kind in (0, 4, 15):
            self.assertEqual(last(*SIX, sum_of(kind)), [0, 0])

    def test_a_kind_above_15(self):
        for kind in (16, 9999, 10000, TOP):
            self.assertEqual(last(*SIX, sum_of(kind)), [0, 0])
            self.assertEqual(last(*SIX, sum_of(kind, [1], [3], [2])), [0, 0])

    def test_its_own_kind_is_none_of_the_12(self):
        self.assertEqual(last(make(12, 5), sum_of(12, [], range(12))), [1, 5])
        self.assertEqual(last(make(12, 5), sum_of(TOP, [], range(12))), [0, 0])

    def test_a_wrong_question_is_refused_whatever_the_kind(self):
        for kind in (0, 15, 16, TOP):
            self.assertEqual(last(sum_of(kind, [16])), [-1])
            self.assertEqual(last(sum_of(kind, range(13))), [-1])

    def test_values_of_0_count(self):
        self.assertEqual(last(make(1, 0), make(1, 0), sum_of(1)), [2, 0])

    def test_sums_above_9999(self):
        self.assertEqual(last(make(1, 9999), make(1, 1), sum_of(1)), [2, 10000])
        self.assertEqual(last(*[make(0, 9999)] * 20, sum_of(0)), [20, 199980])

    def test_lowest_and_highest_kind(self):
        self.assertEqual(run(make(0, 3, 15, 4), make(0, 5, 15, 6), sum_of(0), sum_of(15))[2:], [[2, 8], [2, 10]])

    def test_in_a_world_without_things(self):
        self.assertEqual(last(sum_of(1)), [0, 0])

    def test_only_what_lives_and_as_it_is_now(self):
        calls = [make(1, 5), make(1, 7), make(1, 9), gone(1, 0), put(0, 0, 1, 6), sum_of(1), take(2, 0, 1), sum_of(1)]
        self.assertEqual(run(*calls)[5:], [[2, 15], [0], [1, 6]])

    def test_what_is_put_off_does_not_count(self):
        calls = [make(1, 5), later(0, 7, 1, 6), later(2, 0, 0, 1, 8), sum_of(1), apply(), sum_of(1)]
        self.assertEqual(run(*calls)[3:], [[1, 5], [2, 1, 7, 1, 0], [2, 14]])

    def test_it_changes_nothing(self):
        calls = [make(1, 5), keep([1]), fresh(0), sum_of(1, [1]), sum_of(1, [16]), fresh(0), parts(0, 0), count()]
        self.assertEqual(run(*calls)[3:], [[1, 5], [-1], [0, 0], [1, 1, 5], [1, 0, 0]])


if __name__ == "__main__":
    unittest.main()
