import unittest

from tests.helper import TOP, apply, ask, count, fresh, gone, keep, last, later, make, put, run, sum_of, take


class Keep(unittest.TestCase):
    def test_answers_which_it_is(self):
        self.assertEqual(run(keep(), keep([1]), keep([], [2], [3])), [[0], [1], [2]])

    def test_the_same_question_twice_is_kept_twice(self):
        self.assertEqual(run(keep([1]), keep([1])), [[0], [1]])

    def test_the_6th_and_the_7th(self):
        self.assertEqual(run(*[keep([kind]) for kind in range(8)]), [[0], [1], [2], [3], [4], [5], [-5], [-5]])

    def test_a_wrong_question_is_told_ahead_of_6(self):
        calls = [*[keep()] * 6, keep([16]), keep([], [TOP]), keep(range(13)), keep()]
        self.assertEqual(run(*calls)[6:], [[-1], [-1], [-1], [-5]])

    def test_a_refused_one_does_not_count(self):
        self.assertEqual(run(keep(), keep([16]), keep(range(13)), keep())[1:], [[-1], [-1], [1]])

    def test_a_refused_one_leaves_the_others(self):
        calls = [make(1, 1), make(2, 1), *[keep([1])] * 6, keep([2]), *[fresh(which) for which in range(7)]]
        self.assertEqual(run(*calls)[8:], [[-5], *[[1, 0, 0, 0]] * 6, [-2]])

    def test_it_changes_no_things(self):
        self.assertEqual(run(make(1, 5), later(5, 0), keep([1]), count(), ask())[2:], [[0], [1, 1, 0], [1, 0, 0]])

    def test_each_has_its_own_question(self):
        calls = [make(1, 1), make(2, 2), make(1, 1, 2, 2), keep([1]), keep([], [1]), keep([], [], [1, 2]), keep(),
                 fresh(3), fresh(2), fresh(1), fresh(0)]
        wanted = [[3, 0, 0, 1, 0, 2, 0, 0], [3, 0, 0, 1, 0, 2, 0, 0], [1, 1, 0, 0], [2, 0, 0, 2, 0, 0]]
        self.assertEqual(run(*calls)[7:], wanted)

    def test_twelve_kinds_and_the_highest(self):
        calls = [make(15, 1), make(), keep([15], [*range(10)], [15]), fresh(0)]
        self.assertEqual(run(*calls)[2:], [[0], [1, 0, 0, 0]])


class NoSuchOne(unittest.TestCase):
    def test_none_is_kept(self):
        for which in (0, 1, 5, 6, TOP):
            self.assertEqual(last(make(), fresh(which)), [-2])

    def test_one_behind_the_last(self):
        self.assertEqual(run(keep(), fresh(0), fresh(1), keep(), fresh(1), fresh(2), fresh(TOP))[1:],
                         [[0, 0], [-2], [1], [0, 0], [-2], [-2]])

    def test_six_are_kept(self):
        self.assertEqual(run(*[keep()] * 7, fresh(5), fresh(6), fresh(TOP))[6:], [[-5], [0, 0], [-2], [-2]])

    def test_a_refusal_leaves_what_was_told(self):
        calls = [make(), keep(), fresh(0), make(), fresh(1), fresh(TOP), fresh(0)]
        self.assertEqual(run(*calls)[4:], [[-2], [-2], [1, 1, 0, 0]])


class Fresh(unittest.TestCase):
    def test_one_that_has_told_nothing_yet(self):
        calls = [make(1, 1), make(), make(1, 1), keep([1]), fresh(0)]
        self.assertEqual(last(*calls), [2, 0, 0, 2, 0, 0])

    def test_things_made_behind_the_keeping_too(self):
        self.assertEqual(last(make(), keep(), make(), fresh(0)), [2, 0, 0, 1, 0, 0])

    def test_what_went_ahead_of_the_first_time_was_never_told(self):
        self.assertEqual(last(make(), make(), keep(), gone(0, 0), fresh(0)), [1, 1, 0, 0])

    def test_nothing_to_tell(self):
        self.assertEqual(last(keep(), fresh(0)), [0, 0])
        self.assertEqual(last(make(), keep([1]), fresh(0)), [0, 0])

    def test_twice_with_nothing_changed(self):
        calls = [make(), make(), keep(), fresh(0), fresh(0), fresh(0)]
        self.assertEqual(run(*calls)[3:], [[2, 0, 0, 1, 0, 0], [0, 0], [0, 0]])

    def test_what_came(self):
        calls = [make(1, 1), keep([1]), fresh(0), make(1, 1), make(), make(1, 1), fresh(0), fresh(0)]
        self.assertEqual(run(*calls)[6:], [[2, 1, 0, 3, 0, 0], [0, 0]])

    def test_what_went(self):
        calls = [make(), make(), make(), keep(), fresh(0), gone(2, 0), gone(0, 0), fresh(0), fresh(0)]
        self.assertEqual(run(*calls)[7:], [[0, 2, 0, 0, 2, 0], [0, 0]])

    def test_both_at_once(self):
        calls = [make(), make(1, 1), make(), keep([1]), fresh(0), take(1, 0, 1), put(2, 0, 1, 1), put(0, 0, 1, 1),
                 fresh(0), fresh(0)]
        self.assertEqual(run(*calls)[8:], [[2, 0, 0, 2, 0, 1, 1, 0], [0, 0]])

    def test_a_place_used_again(self):
        calls = [make(), make(), keep(), fresh(0), gone(0, 0), make(), fresh(0), fresh(0)]
        self.assertEqual(run(*calls)[6:], [[1, 0, 1, 1, 0, 0], [0, 0]])

    def test_a_place_used_again_twice(self):
        calls = [make(), keep(), fresh(0), gone(0, 0), make(), gone(0, 1), make(), fresh(0)]
        self.assertEqual(last(*calls), [1, 0, 2, 1, 0, 0])

    def test_a_place_used_again_and_free_again(self):
        calls = [make(), keep(), fresh(0), gone(0, 0), make(), gone(0, 1), fresh(0)]
        self.assertEqual(last(*calls), [0, 1, 0, 0])

    def test_what_came_and_went_between_two_times_is_not_told(self):
        self.assertEqual(last(keep(), fresh(0), make(), gone(0, 0), fresh(0)), [0, 0])

    def test_a_part_put_on(self):
        calls = [make(1, 1), keep([1], [2]), keep([], [], [2, 3]), fresh(0), fresh(1), put(0, 0, 2, 5),
                 fresh(0), fresh(1)]
        self.assertEqual(run(*calls)[3:], [[1, 0, 0, 0], [0, 0], [0], [0, 1, 0, 0], [1, 0, 0, 0]])

    def test_a_part_taken_off(self):
        calls = [make(1, 1, 2, 2), keep([1, 2]), keep([1], [2]), fresh(0), fresh(1), take(0, 0, 2), fresh(0), fresh(1)]
        self.assertEqual(run(*calls)[3:], [[1, 0, 0, 0], [0, 0], [0], [0, 1, 0, 0], [1, 0, 0, 0]])

    def test_a_part_put_on_again_tells_it_again(self):
        calls = [make(1, 1), keep([1]), fresh(0), take(0, 0, 1), fresh(0), put(0, 0, 1, 1), fresh(0)]
        self.assertEqual(run(*calls)[2:], [[1, 0, 0, 0], [0], [0, 1, 0, 0], [0], [1, 0, 0, 0]])

    def test_a_part_taken_off_and_put_on_between_two_times(self):
        self.assertEqual(last(make(1, 1), keep([1]), fresh(0), take(0, 0, 1), put(0, 0, 1, 2), fresh(0)), [0, 0])

    def test_another_value_is_no_news(self):
        self.assertEqual(last(make(1, 1), keep([1]), fresh(0), put(0, 0, 1, 2), fresh(0)), [0, 0])

    def test_what_it_told_is_all_that_it_would_tell_and_not_the_new_alone(self):
        calls = [make(), keep(), fresh(0), make(), fresh(0), fresh(0), gone(0, 0), fresh(0)]
        self.assertEqual(run(*calls)[4:], [[1, 1, 0, 0], [0, 0], [1], [0, 1, 0, 0]])

    def test_20_came_and_20_went(self):
        made = [later(0, 0) for number in range(20)]
        names = [number for place in range(20) for number in (place, 0)]
        calls = [*made, apply(), keep([], [1]), fresh(0), *[put(place, 0, 1, 1) for place in range(16)], fresh(0)]
        self.assertEqual(run(*calls)[22], [20, *names, 0])
        self.assertEqual(last(*calls), [0, 16, *names[:32]])


class OrderOfWhatWent(unittest.TestCase):
    """What went is told as the question told it last: by its places then, whatever went first."""

    def test_not_the_order_in_which_they_went(self):
        calls = [make(), make(), make(), keep(), fresh(0), gone(1, 0), gone(2, 0), gone(0, 0), fresh(0)]
        self.assertEqual(last(*calls), [0, 3, 0, 0, 1, 0, 2, 0])

    def test_by_places_as_all_was_told_last(self):
        calls = [make(), make(1, 1), keep([1]), fresh(0), put(0, 0, 1, 1), fresh(0), gone(1, 0), gone(0, 0), fresh(0)]
        self.assertEqual(run(*calls)[3:], [[1, 1, 0, 0], [0], [1, 0, 0, 0], [1], [0], [0, 2, 0, 0, 1, 0]])

    def test_a_later_turn_at_a_lower_place(self):
        calls = [make(), make(), gone(0, 0), make(), keep(), fresh(0), gone(1, 0), gone(0, 1), make(), fresh(0)]
        self.assertEqual(last(*calls), [1, 0, 2, 2, 0, 1, 1, 0])


class TwoKept(unittest.TestCase):
    def test_they_do_not_disturb_one_another(self):
        calls = [make(), keep(), keep(), fresh(0), make(), fresh(0), fresh(1), gone(0, 0), fresh(1), fresh(1), fresh(0)]
        wanted = [[1, 0, 0, 0], [1, 0], [1, 1, 0, 0], [2, 0, 0, 1, 0, 0], [1], [0, 1, 0, 0], [0, 0], [0, 1, 0, 0]]
        self.assertEqual(run(*calls)[3:], wanted)

    def test_one_kept_later_has_told_nothing_yet(self):
        self.assertEqual(run(make(), keep(), fresh(0), keep(), fresh(1), fresh(0))[4:], [[1, 0, 0, 0], [0, 0]])

    def test_six_at_different_times(self):
        calls = [call for which in range(6) for call in (keep(), make(), fresh(which))]
        names = [number for place in range(6) for number in (place, 0)]
        wanted = [[which + 1, *names[:2 * which + 2], 0] for which in range(6)]
        self.assertEqual(run(*calls)[2::3], wanted)
        again = [[5 - which, *names[2 * which + 2:], 0] for which in range(6)]
        self.assertEqual(run(*calls, *[fresh(which) for which in range(6)])[18:], again)


class OtherCalls(unittest.TestCase):
    def test_ask_and_sum_tell_nothing_for_a_kept_one(self):
        calls = [make(1, 1), keep([1]), ask([1]), sum_of(1, [1]), fresh(0), make(1, 1), ask([1]), fresh(0)]
        self.assertEqual(run(*calls)[4:], [[1, 0, 0, 0], [1, 0], [2, 0, 0, 1, 0], [1, 1, 0, 0]])

    def test_what_is_put_off_is_told_when_it_is_done(self):
        calls = [make(1, 1), make(1, 1), keep([1]), fresh(0), later(1, 1, 0), later(0, 7, 1, 1), later(0, 8),
                 later(3, 0, 0, 1), later(4, 8, 1, 1), fresh(0), apply(), fresh(0)]
        self.assertEqual(run(*calls)[9:], [[0, 0], [3, 2, 7, 1, 1, 8, 2, 0], [2, 1, 1, 2, 0, 2, 0, 0, 1, 0]])

    def test_what_came_and_went_within_one_apply_is_not_told(self):
        self.assertEqual(last(keep(), fresh(0), later(0, 7), later(5, 7), apply(), fresh(0)), [0, 0])

    def test_fresh_changes_no_things(self):
        self.assertEqual(run(make(1, 5), later(5, 0), keep(), fresh(0), count(), ask())[4:], [[1, 1, 0], [1, 0, 0]])


if __name__ == "__main__":
    unittest.main()
