import unittest

from tests.helper import TOP, run, get, gone, last, make, parts, put, take

FULL = [make() for number in range(20)]


class Make(unittest.TestCase):
    def test_answers_the_name(self):
        self.assertEqual(run(make(3, 40)), [[0, 0]])

    def test_things_stand_at_places_from_0_on(self):
        self.assertEqual(run(make(), make(), make()), [[0, 0], [1, 0], [2, 0]])

    def test_no_parts_at_all(self):
        self.assertEqual(run(make(), parts(0, 0), gone(0, 0)), [[0, 0], [0], [0]])

    def test_a_thing_without_parts_keeps_its_place(self):
        self.assertEqual(run(make(), make(), gone(0, 0)), [[0, 0], [1, 0], [1]])

    def test_it_has_the_parts_it_is_made_with(self):
        self.assertEqual(last(make(2, 7, 3, 0, 9, 41), parts(0, 0)), [3, 2, 7, 3, 0, 9, 41])

    def test_each_thing_has_parts_of_its_own(self):
        calls = [make(1, 10), make(1, 20), put(0, 0, 1, 11), get(0, 0, 1), get(1, 0, 1)]
        self.assertEqual(run(*calls)[-2:], [[11], [20]])

    def test_lowest_and_highest_kind(self):
        self.assertEqual(last(make(0, 5, 15, 6), parts(0, 0)), [2, 0, 5, 15, 6])

    def test_kind_of_16_is_refused(self):
        self.assertEqual(last(make(16, 0)), [-1])

    def test_kind_of_16_behind_right_ones_is_refused(self):
        self.assertEqual(last(make(0, 0, 15, 0, 16, 0)), [-1])

    def test_value_of_9999(self):
        self.assertEqual(last(make(0, 9999), get(0, 0, 0)), [9999])

    def test_value_of_10000_is_refused(self):
        self.assertEqual(last(make(0, 10000)), [-1])

    def test_value_of_10000_is_refused_at_any_part(self):
        self.assertEqual(last(make(0, 10000, 1, 0, 2, 0)), [-1])
        self.assertEqual(last(make(0, 0, 1, 10000, 2, 0)), [-1])
        self.assertEqual(last(make(0, 0, 1, 0, 2, 10000)), [-1])

    def test_largest_numbers_are_refused(self):
        self.assertEqual(last(make(TOP, 0)), [-1])
        self.assertEqual(last(make(0, TOP)), [-1])
        self.assertEqual(last(make(TOP, TOP)), [-1])

    def test_same_kinds_are_refused(self):
        self.assertEqual(last(make(4, 1, 4, 2)), [-1])
        self.assertEqual(last(make(0, 1, 0, 1)), [-1])

    def test_falling_kinds_are_refused(self):
        self.assertEqual(last(make(5, 1, 4, 2)), [-1])

    def test_each_kind_is_above_the_one_before_and_not_only_the_first(self):
        self.assertEqual(last(make(1, 0, 9, 0, 5, 0)), [-1])
        self.assertEqual(last(make(1, 0, 9, 0, 9, 0)), [-1])

    def test_values_need_not_rise(self):
        self.assertEqual(last(make(0, 9, 1, 9, 2, 3), parts(0, 0)), [3, 0, 9, 1, 9, 2, 3])

    def test_all_16_kinds(self):
        every = [number for kind in range(16) for number in (kind, 9999 - kind)]
        self.assertEqual(last(make(*every), parts(0, 0)), [16, *every])

    def test_20_parts_are_refused(self):
        rising = [number for kind in range(20) for number in (kind, 1)]
        self.assertEqual(last(make(*rising)), [-1])

    def test_the_20th_and_the_21st_thing(self):
        answered = run(*FULL, make())
        self.assertEqual(answered[:20], [[place, 0] for place in range(20)])
        self.assertEqual(answered[20], [-5])

    def test_wrong_parts_are_told_ahead_of_20_things(self):
        self.assertEqual(last(*FULL, make(16, 0)), [-1])
        self.assertEqual(last(*FULL, make(0, 10000)), [-1])
        self.assertEqual(last(*FULL, make(3, 0, 3, 0)), [-1])

    def test_there_is_room_again_when_one_is_gone(self):
        calls = [*FULL, make(), gone(13, 0), make(2, 5), make(), parts(13, 1)]
        self.assertEqual(run(*calls)[20:], [[-5], [19], [13, 1], [-5], [1, 2, 5]])

    def test_20_living_things_count_and_not_all_that_were(self):
        calls = [call for turn in range(20) for call in (make(), gone(0, turn))]
        wanted = [answer for turn in range(20) for answer in ([0, turn], [0])]
        self.assertEqual(run(*calls), wanted)

    def test_a_refusal_takes_no_place_and_no_turn(self):
        calls = [make(16, 0), make(1, 1), make(2, 1, 1, 1), make(), gone(1, 0), make(0, 10000), make()]
        self.assertEqual(run(*calls), [[-1], [0, 0], [-1], [1, 0], [1], [-1], [1, 1]])

    def test_a_refusal_for_20_leaves_all_as_it_was(self):
        calls = [make(1, 2), *FULL[1:], make(1, 3), parts(0, 0), gone(19, 0), make()]
        self.assertEqual(run(*calls)[20:], [[-5], [1, 1, 2], [19], [19, 1]])


class Names(unittest.TestCase):
    def test_a_place_used_again_has_one_turn_more(self):
        calls = [make(), gone(0, 0), make(), gone(0, 1), make(), gone(0, 2), make()]
        self.assertEqual(run(*calls)[::2], [[0, 0], [0, 1], [0, 2], [0, 3]])

    def test_turns_are_counted_for_each_place(self):
        calls = [make(), make(), gone(1, 0), make(), gone(1, 1), make(), gone(0, 0), make(), make()]
        self.assertEqual(run(*calls)[3::2], [[1, 1], [1, 2], [0, 1]])
        self.assertEqual(last(*calls), [2, 0])

    def test_the_lowest_free_place_is_taken_first(self):
        calls = [make(), make(), make(), make(), gone(3, 0), gone(1, 0), gone(2, 0), make(), make(), make(), make()]
        self.assertEqual(run(*calls)[7:], [[1, 1], [2, 1], [3, 1], [4, 0]])

    def test_place_0_is_used_again_too(self):
        self.assertEqual(run(make(), make(), gone(1, 0), gone(0, 0), make(), make())[4:], [[0, 1], [1, 1]])

    def test_the_old_name_is_refused_when_its_place_is_used_again(self):
        for call in (gone(0, 0), put(0, 0, 1, 1), take(0, 0, 1), get(0, 0, 1), parts(0, 0)):
            with self.subTest(call=call):
                answered = run(make(1, 5), gone(0, 0), make(1, 6), call, parts(0, 1))
                self.assertEqual(answered[2:], [[0, 1], [-2], [1, 1, 6]])

    def test_the_old_name_is_refused_while_its_place_is_free(self):
        for call in (gone(0, 0), put(0, 0, 1, 1), take(0, 0, 1), get(0, 0, 1), parts(0, 0)):
            with self.subTest(call=call):
                self.assertEqual(run(make(1, 5), gone(0, 0), call, make())[2:], [[-2], [0, 1]])

    def test_the_next_name_does_not_live_ahead_of_its_making(self):
        for call in (gone(0, 1), put(0, 1, 1, 1), take(0, 1, 1), get(0, 1, 1), parts(0, 1)):
            with self.subTest(call=call):
                self.assertEqual(last(make(1, 5), call), [-2])
                self.assertEqual(run(make(1, 5), gone(0, 0), call, make(), parts(0, 1))[2:], [[-2], [0, 1], [0]])

    def test_a_place_at_which_none_ever_was(self):
        for place in (1, 19, 20, TOP):
            for call in (gone(place, 0), put(place, 0, 1, 1), take(place, 0, 1), get(place, 0, 1), parts(place, 0)):
                with self.subTest(call=call):
                    self.assertEqual(last(make(1, 5), call), [-2])

    def test_a_name_in_a_world_without_things(self):
        for call in (gone(0, 0), put(0, 0, 1, 1), take(0, 0, 1), get(0, 0, 1), parts(0, 0)):
            with self.subTest(call=call):
                self.assertEqual(last(call), [-2])

    def test_largest_place_and_turn(self):
        for place, turn in ((0, TOP), (TOP, 0), (TOP, TOP)):
            for call in (gone(place, turn), put(place, turn, 1, 1), take(place, turn, 1),
                         get(place, turn, 1), parts(place, turn)):
                with self.subTest(call=call):
                    self.assertEqual(run(make(1, 5), call, parts(0, 0))[1:], [[-2], [1, 1, 5]])

    def test_a_thing_has_none_of_the_parts_of_the_one_before_it(self):
        self.assertEqual(last(make(1, 5, 2, 6), gone(0, 0), make(2, 7), parts(0, 1)), [1, 2, 7])


class Gone(unittest.TestCase):
    def test_answers_how_many_things_there_are_then(self):
        calls = [make(), make(), make(), gone(1, 0), gone(0, 0), gone(2, 0)]
        self.assertEqual(run(*calls)[3:], [[2], [1], [0]])

    def test_only_that_one_is_gone(self):
        calls = [make(1, 1), make(2, 2), make(3, 3), gone(1, 0), parts(0, 0), parts(1, 0), parts(2, 0)]
        self.assertEqual(run(*calls)[4:], [[1, 1, 1], [-2], [1, 3, 3]])

    def test_what_is_gone_is_not_gone_again(self):
        self.assertEqual(run(make(), make(), gone(0, 0), gone(0, 0), gone(1, 0))[2:], [[1], [-2], [0]])

    def test_a_refusal_adds_no_turn(self):
        self.assertEqual(last(make(), gone(0, 0), gone(0, 0), gone(0, 1), make()), [0, 1])


class Put(unittest.TestCase):
    def test_it_has_that_part(self):
        self.assertEqual(run(make(), put(0, 0, 3, 77), get(0, 0, 3))[1:], [[0], [77]])

    def test_instead_of_one_of_that_kind(self):
        self.assertEqual(run(make(3, 1, 4, 2), put(0, 0, 3, 77), parts(0, 0))[1:], [[0], [2, 3, 77, 4, 2]])

    def test_lowest_and_highest_kind_and_value(self):
        calls = [make(), put(0, 0, 15, 9999), put(0, 0, 0, 0), parts(0, 0)]
        self.assertEqual(run(*calls)[1:], [[0], [0], [2, 0, 0, 15, 9999]])

    def test_wrong_kind_or_value_is_refused(self):
        for kind, value in ((16, 0), (0, 10000), (16, 10000), (TOP, 0), (0, TOP), (TOP, TOP)):
            with self.subTest(kind=kind, value=value):
                self.assertEqual(last(make(0, 1), put(0, 0, kind, value)), [-1])

    def test_a_name_that_does_not_live_is_refused(self):
        self.assertEqual(last(make(), put(1, 0, 0, 0)), [-2])
        self.assertEqual(last(make(), put(0, 1, 15, 9999)), [-2])

    def test_wrong_kind_or_value_is_told_ahead_of_the_name(self):
        self.assertEqual(last(put(0, 0, 16, 0)), [-1])
        self.assertEqual(last(put(0, 0, 0, 10000)), [-1])
        self.assertEqual(last(make(), gone(0, 0), put(0, 0, TOP, TOP)), [-1])
        self.assertEqual(last(put(TOP, TOP, TOP, TOP)), [-1])

    def test_a_refusal_leaves_the_parts_as_they_were(self):
        calls = [make(0, 1, 5, 2), put(0, 0, 16, 3), put(0, 0, 5, 10000), put(0, 1, 5, 3), put(1, 0, 5, 3), parts(0, 0)]
        self.assertEqual(run(*calls)[1:], [[-1], [-1], [-2], [-2], [2, 0, 1, 5, 2]])


class Take(unittest.TestCase):
    def test_it_has_it_no_more(self):
        calls = [make(3, 1, 4, 2), take(0, 0, 3), get(0, 0, 3), parts(0, 0)]
        self.assertEqual(run(*calls)[1:], [[0], [-3], [1, 4, 2]])

    def test_the_last_part_taken_leaves_a_thing_that_lives(self):
        self.assertEqual(run(make(3, 0), take(0, 0, 3), parts(0, 0), make(), gone(0, 0))[1:], [[0], [0], [1, 0], [1]])

    def test_a_kind_it_has_not(self):
        for kind in (0, 2, 15, 16, TOP):
            with self.subTest(kind=kind):
                self.assertEqual(run(make(1, 5), take(0, 0, kind), parts(0, 0))[1:], [[-3], [1, 1, 5]])

    def test_what_was_taken_is_not_taken_again(self):
        self.assertEqual(run(make(1, 5), take(0, 0, 1), take(0, 0, 1))[1:], [[0], [-3]])

    def test_what_was_taken_may_be_put_on_again(self):
        self.assertEqual(run(make(1, 5), take(0, 0, 1), put(0, 0, 1, 6), parts(0, 0))[1:], [[0], [0], [1, 1, 6]])

    def test_only_from_that_thing(self):
        self.assertEqual(run(make(1, 5), make(1, 6), take(0, 0, 1), get(1, 0, 1))[2:], [[0], [6]])

    def test_a_name_that_does_not_live_is_told_ahead_of_the_kind(self):
        self.assertEqual(last(make(1, 5), take(0, 1, 2)), [-2])
        self.assertEqual(last(make(1, 5), take(1, 0, 16)), [-2])
        self.assertEqual(last(take(TOP, TOP, TOP)), [-2])


class Get(unittest.TestCase):
    def test_the_value(self):
        self.assertEqual(run(make(1, 5, 2, 9999), get(0, 0, 1), get(0, 0, 2))[1:], [[5], [9999]])

    def test_a_value_of_0_is_a_value(self):
        self.assertEqual(last(make(0, 0), get(0, 0, 0)), [0])

    def test_it_changes_nothing(self):
        self.assertEqual(run(make(1, 5), get(0, 0, 1), get(0, 0, 2), parts(0, 0))[1:], [[5], [-3], [1, 1, 5]])

    def test_a_kind_it_has_not(self):
        for kind in (0, 2, 15, 16, TOP):
            with self.subTest(kind=kind):
                self.assertEqual(last(make(1, 5), get(0, 0, kind)), [-3])

    def test_a_name_that_does_not_live_is_told_ahead_of_the_kind(self):
        self.assertEqual(last(make(1, 5), get(0, 1, 2)), [-2])
        self.assertEqual(last(make(1, 5), get(1, 0, 16)), [-2])
        self.assertEqual(last(get(TOP, TOP, TOP)), [-2])


class Parts(unittest.TestCase):
    def test_by_rising_kinds_however_they_came(self):
        calls = [make(7, 1), put(0, 0, 12, 2), put(0, 0, 3, 3), put(0, 0, 0, 4), put(0, 0, 7, 5), parts(0, 0)]
        self.assertEqual(last(*calls), [4, 0, 4, 3, 3, 7, 5, 12, 2])

    def test_it_changes_nothing(self):
        self.assertEqual(run(make(1, 5), parts(0, 0), parts(0, 0))[1:], [[1, 1, 5], [1, 1, 5]])

    def test_a_name_that_does_not_live_is_refused(self):
        self.assertEqual(last(make(), parts(0, 1)), [-2])
        self.assertEqual(last(make(), parts(1, 0)), [-2])


if __name__ == "__main__":
    unittest.main()
