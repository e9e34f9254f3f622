import unittest

from tests.helper import apply, ask, count, fresh, get, gone, keep, last, later, make, parts, put, run, sum_of, take

FULL = [make() for number in range(20)]


class Count(unittest.TestCase):
    def test_at_the_beginning(self):
        self.assertEqual(last(count()), [0, 0, 0])

    def test_behind_make(self):
        self.assertEqual(run(make(), count(), make(1, 1), count())[1::2], [[1, 0, 0], [2, 0, 0]])

    def test_behind_gone(self):
        calls = [make(), make(), gone(0, 0), count(), gone(1, 0), count()]
        self.assertEqual(run(*calls)[3::2], [[1, 0, 1], [0, 0, 2]])

    def test_behind_later(self):
        self.assertEqual(run(later(0, 7), count(), later(1, 0, 0), count())[1::2], [[0, 1, 0], [0, 2, 0]])

    def test_behind_apply(self):
        calls = [make(), later(0, 7), later(1, 0, 0), later(0, 8), count(), apply(), count()]
        self.assertEqual(run(*calls)[4:], [[1, 3, 0], [2, 2, 7, 1, 0, 8, 0, 1], [2, 0, 1]])

    def test_things_gone_are_counted_at_each_place_and_turn(self):
        calls = [make(), make(), gone(0, 0), make(), gone(0, 1), make(), gone(1, 0), gone(0, 2),
                 count(), make(), count()]
        self.assertEqual(run(*calls)[8::2], [[0, 0, 4], [1, 0, 4]])

    def test_a_thing_made_and_gone_within_one_apply_was_too(self):
        calls = [later(0, 7), later(5, 7), later(0, 7), later(5, 7), apply(), count()]
        self.assertEqual(last(*calls), [0, 0, 2])

    def test_behind_a_refused_make(self):
        self.assertEqual(last(make(16, 0), make(1, 1, 1, 1), count()), [0, 0, 0])
        self.assertEqual(last(*FULL, make(), count()), [20, 0, 0])

    def test_behind_a_refused_gone(self):
        self.assertEqual(last(make(), gone(0, 1), gone(1, 0), count()), [1, 0, 0])
        self.assertEqual(last(make(), gone(0, 0), gone(0, 0), count()), [0, 0, 1])

    def test_behind_a_refused_later(self):
        self.assertEqual(last(later(5, 0), later(3, 0, 0, 16), count()), [0, 1, 0])
        self.assertEqual(last(*[later(5, 0)] * 31, count()), [0, 30, 0])

    def test_behind_a_refused_apply(self):
        calls = [make(), gone(0, 0), *FULL, later(1, 5, 0), later(0, 7), later(0, 8), apply(), count()]
        self.assertEqual(run(*calls)[25:], [[-5], [20, 3, 1]])

    def test_changes_put_off_that_do_nothing(self):
        calls = [later(1, 0, 0), later(5, 7), count(), apply(), count()]
        self.assertEqual(run(*calls)[2:], [[0, 2, 0], [0, 0], [0, 0, 0]])

    def test_the_other_calls_leave_it(self):
        others = [put(0, 0, 1, 1), get(0, 0, 1), parts(0, 0), take(0, 0, 1), ask(), keep(), fresh(0), sum_of(1),
                  count(), put(0, 0, 16, 1), get(5, 0, 1), parts(5, 0), take(5, 0, 1), ask([16]), keep([16]), fresh(9)]
        calls = [make(), make(), gone(1, 0), later(0, 7)]
        for other in others:
            calls.append(other)
            self.assertEqual(last(*calls, count()), [1, 1, 1])

    def test_twice(self):
        self.assertEqual(run(make(), later(5, 0), count(), count())[2:], [[1, 1, 0], [1, 1, 0]])

    def test_places_that_are_free_are_no_things(self):
        calls = [*FULL, later(0, 7), later(1, 0, 0), later(1, 1, 0), apply(), count()]
        self.assertEqual(last(*calls), [19, 0, 2])


if __name__ == "__main__":
    unittest.main()
