import unittest

from tests.helper import TOP, apply, ask, count, fresh, get, gone, keep, last, later, make, parts, put, run, take

FULL = [make() for number in range(20)]


class Forms(unittest.TestCase):
    """Each of the six forms of a change, done."""

    def test_made(self):
        self.assertEqual(run(later(0, 7, 1, 5, 3, 9), apply(), parts(0, 0))[1:], [[1, 1, 7, 0, 0], [2, 1, 5, 3, 9]])

    def test_made_without_parts(self):
        self.assertEqual(run(later(0, 7), apply(), parts(0, 0))[1:], [[1, 1, 7, 0, 0], [0]])

    def test_made_with_all_16_kinds(self):
        every = [number for kind in range(16) for number in (kind, 9999 - kind)]
        self.assertEqual(run(later(0, 7, *every), apply(), parts(0, 0))[1:], [[1, 1, 7, 0, 0], [16, *every]])

    def test_gone(self):
        calls = [make(), make(1, 5), later(1, 0, 0), apply(), parts(0, 0), parts(1, 0), make()]
        self.assertEqual(run(*calls)[3:], [[1, 0], [-2], [1, 1, 5], [0, 1]])

    def test_put_on(self):
        calls = [make(5, 1), make(), later(2, 0, 0, 3, 9999), apply(), parts(0, 0), parts(1, 0)]
        self.assertEqual(run(*calls)[3:], [[2, 0], [2, 3, 9999, 5, 1], [0]])

    def test_put_on_instead_of_one_of_that_kind(self):
        calls = [make(3, 1, 4, 2), later(2, 0, 0, 3, 0), apply(), parts(0, 0)]
        self.assertEqual(run(*calls)[2:], [[1, 0], [2, 3, 0, 4, 2]])

    def test_taken_off(self):
        calls = [make(3, 1, 4, 2), make(3, 1), later(3, 0, 0, 3), apply(), parts(0, 0), parts(1, 0)]
        self.assertEqual(run(*calls)[3:], [[2, 0], [1, 4, 2], [1, 3, 1]])

    def test_taken_off_where_it_is_not(self):
        self.assertEqual(run(make(3, 1), later(3, 0, 0, 4), apply(), parts(0, 0))[2:], [[1, 0], [1, 3, 1]])

    def test_the_last_part_taken_off_leaves_a_thing_that_lives(self):
        self.assertEqual(run(make(3, 1), later(3, 0, 0, 3), apply(), parts(0, 0))[2:], [[1, 0], [0]])

    def test_put_on_by_word(self):
        calls = [make(), later(0, 7, 1, 5), later(4, 7, 0, 6), apply(), parts(0, 0), parts(1, 0)]
        self.assertEqual(run(*calls)[3:], [[2, 1, 7, 1, 0], [0], [2, 0, 6, 1, 5]])

    def test_put_on_by_word_instead_of_one_of_that_kind(self):
        calls = [later(0, 7, 1, 5), later(4, 7, 1, 6), apply(), parts(0, 0)]
        self.assertEqual(run(*calls)[2:], [[1, 1, 7, 0, 0], [1, 1, 6]])

    def test_gone_by_word(self):
        calls = [make(), later(0, 7, 1, 5), later(5, 7), apply(), parts(0, 0), parts(1, 0), make()]
        self.assertEqual(run(*calls)[3:], [[1, 1, 7, 1, 0], [0], [-2], [1, 1]])

    def test_all_six_at_once(self):
        calls = [make(1, 5), make(2, 6), make(3, 7), later(1, 0, 0), later(0, 8, 4, 1), later(2, 1, 0, 9, 2),
                 later(3, 2, 0, 3), later(0, 9), later(4, 8, 5, 3), later(5, 9), apply(),
                 parts(0, 1), parts(1, 0), parts(2, 0), parts(3, 0), count()]
        wanted = [[3, 2, 8, 0, 1, 9, 3, 0], [2, 4, 1, 5, 3], [2, 2, 6, 9, 2], [0], [-2], [3, 0, 2]]
        self.assertEqual(run(*calls)[10:], wanted)

    def test_a_word_is_not_taken_for_a_place(self):
        calls = [make(1, 1), later(0, 0, 2, 2), later(4, 0, 3, 3), later(5, 1), apply(), parts(0, 0), parts(1, 0)]
        self.assertEqual(run(*calls)[4:], [[2, 1, 0, 1, 0], [1, 1, 1], [2, 2, 2, 3, 3]])


class Order(unittest.TestCase):
    def test_the_last_put_on_holds(self):
        self.assertEqual(last(make(), later(2, 0, 0, 1, 5), later(2, 0, 0, 1, 6), apply(), get(0, 0, 1)), [6])

    def test_put_on_then_taken_off(self):
        self.assertEqual(last(make(), later(2, 0, 0, 1, 5), later(3, 0, 0, 1), apply(), parts(0, 0)), [0])

    def test_taken_off_then_put_on(self):
        self.assertEqual(last(make(1, 4), later(3, 0, 0, 1), later(2, 0, 0, 1, 5), apply(), parts(0, 0)), [1, 1, 5])

    def test_gone_then_made_uses_the_place_again(self):
        calls = [make(1, 4), make(), later(1, 0, 0), later(0, 7), apply(), parts(0, 1)]
        self.assertEqual(run(*calls)[4:], [[2, 1, 7, 0, 1], [0]])

    def test_made_then_gone_does_not(self):
        calls = [make(), make(), later(0, 7), later(1, 0, 0), apply()]
        self.assertEqual(last(*calls), [2, 1, 7, 2, 0])

    def test_made_at_the_lowest_free_place(self):
        calls = [*FULL[:4], gone(2, 0), gone(1, 0), later(0, 7), later(0, 8), later(0, 9), apply()]
        self.assertEqual(last(*calls), [5, 3, 7, 1, 1, 8, 2, 1, 9, 4, 0])

    def test_put_on_by_word_then_by_name(self):
        calls = [later(0, 7), later(4, 7, 1, 5), later(2, 0, 0, 1, 6), apply(), parts(0, 0)]
        self.assertEqual(last(*calls), [1, 1, 6])

    def test_a_thing_made_and_gone_many_times(self):
        calls = [call for word in range(15) for call in (later(0, word), later(5, word))]
        told = [number for word in range(15) for number in (word, 0, word)]
        self.assertEqual(run(*calls, apply(), count(), make())[30:], [[0, 15, *told], [0, 0, 15], [0, 15]])


class NamesThen(unittest.TestCase):
    """Whether a name lives is asked when its change is done, not when it is put off."""

    def test_a_name_that_does_not_live_does_nothing(self):
        for change in ((1, 0, 1), (2, 0, 1, 1, 6), (3, 0, 1, 1), (1, 1, 0), (2, 1, 0, 1, 6), (3, 1, 0, 1),
                       (1, TOP, 0), (1, 0, TOP), (2, TOP, TOP, 1, 6), (3, 20, 0, 1)):
            with self.subTest(change=change):
                calls = [make(1, 5), later(*change), apply(), parts(0, 0), count(), make()]
                self.assertEqual(run(*calls)[1:], [[1], [1, 0], [1, 1, 5], [1, 0, 0], [1, 0]])

    def test_the_others_are_done_all_the_same(self):
        calls = [make(1, 5), later(2, 0, 0, 2, 6), later(2, 3, 0, 1, 9), later(5, 8), later(3, 0, 0, 1), later(0, 7),
                 apply(), parts(0, 0)]
        self.assertEqual(run(*calls)[6:], [[2, 1, 7, 1, 0], [1, 2, 6]])

    def test_a_name_that_is_gone_meanwhile(self):
        for change in ((1, 0, 0), (2, 0, 0, 1, 6), (3, 0, 0, 1)):
            with self.subTest(change=change):
                calls = [make(1, 5), later(*change), gone(0, 0), make(1, 7), apply(), parts(0, 1), count()]
                self.assertEqual(run(*calls)[4:], [[1, 0], [1, 1, 7], [1, 0, 1]])

    def test_a_name_that_comes_to_live_by_a_call_meanwhile(self):
        self.assertEqual(run(later(2, 0, 0, 1, 6), make(), apply(), parts(0, 0))[2:], [[1, 0], [1, 1, 6]])

    def test_a_name_that_comes_to_live_by_an_earlier_change(self):
        calls = [make(), later(0, 7, 1, 5), later(2, 1, 0, 2, 6), later(3, 1, 0, 1), apply(), parts(1, 0)]
        self.assertEqual(run(*calls)[4:], [[2, 1, 7, 1, 0], [1, 2, 6]])
        calls = [make(), later(1, 0, 0), later(0, 7), later(1, 0, 1), apply(), make()]
        self.assertEqual(run(*calls)[4:], [[0, 1, 7, 0, 1], [0, 2]])

    def test_a_name_that_comes_to_live_by_a_later_change_only(self):
        calls = [later(2, 0, 0, 2, 6), later(1, 0, 0), later(0, 7, 1, 5), apply(), parts(0, 0)]
        self.assertEqual(run(*calls)[3:], [[1, 1, 7, 0, 0], [1, 1, 5]])

    def test_a_name_that_ceases_to_live_by_an_earlier_change(self):
        for change in ((1, 0, 0), (2, 0, 0, 1, 6), (3, 0, 0, 1)):
            with self.subTest(change=change):
                calls = [make(1, 5), later(1, 0, 0), later(*change), apply(), count(), make()]
                self.assertEqual(run(*calls)[3:], [[0, 0], [0, 0, 1], [0, 1]])

    def test_the_old_name_when_its_place_is_used_again_by_an_earlier_change(self):
        for change in ((1, 0, 0), (2, 0, 0, 1, 6), (3, 0, 0, 1)):
            with self.subTest(change=change):
                calls = [make(1, 5), later(1, 0, 0), later(0, 7, 1, 8), later(*change), apply(), parts(0, 1)]
                self.assertEqual(run(*calls)[4:], [[1, 1, 7, 0, 1], [1, 1, 8]])


class Words(unittest.TestCase):
    def test_any_number_is_a_word(self):
        calls = [later(0, TOP), later(0, 0), later(0, 10000), later(4, TOP, 1, 5), apply(), parts(0, 0)]
        self.assertEqual(run(*calls)[4:], [[3, 3, TOP, 0, 0, 0, 1, 0, 10000, 2, 0], [1, 1, 5]])

    def test_told_in_the_order_in_which_they_were_given(self):
        calls = [later(0, 9), later(0, 3), later(0, 5), apply()]
        self.assertEqual(last(*calls), [3, 3, 9, 0, 0, 3, 1, 0, 5, 2, 0])

    def test_a_word_given_twice_is_told_once_with_its_last_name(self):
        self.assertEqual(last(later(0, 7), later(0, 7), apply()), [2, 1, 7, 1, 0])

    def test_told_in_the_order_in_which_they_were_given_last(self):
        calls = [later(0, 1), later(0, 2), later(0, 3), later(0, 1), later(0, 2), apply()]
        self.assertEqual(last(*calls), [5, 3, 3, 2, 0, 1, 3, 0, 2, 4, 0])

    def test_a_change_by_a_word_is_no_giving(self):
        calls = [later(0, 1), later(0, 2), later(4, 1, 3, 3), later(5, 1), apply()]
        self.assertEqual(last(*calls), [1, 2, 1, 0, 0, 2, 1, 0])

    def test_a_change_by_a_word_given_twice_means_the_last(self):
        calls = [later(0, 7), later(0, 7), later(4, 7, 1, 5), apply(), parts(0, 0), parts(1, 0)]
        self.assertEqual(run(*calls)[4:], [[0], [1, 1, 5]])
        calls = [later(0, 7), later(0, 7), later(5, 7), apply(), parts(0, 0), parts(1, 0)]
        self.assertEqual(run(*calls)[3:], [[1, 1, 7, 1, 0], [0], [-2]])

    def test_a_change_between_two_givings_means_the_first(self):
        calls = [later(0, 7), later(4, 7, 1, 5), later(0, 7), apply(), parts(0, 0), parts(1, 0)]
        self.assertEqual(run(*calls)[4:], [[1, 1, 5], [0]])

    def test_the_first_is_not_meant_when_the_last_is_gone(self):
        calls = [later(0, 7), later(0, 7), later(5, 7), later(5, 7), later(4, 7, 1, 5), apply(), parts(0, 0)]
        self.assertEqual(run(*calls)[5:], [[1, 1, 7, 1, 0], [0]])

    def test_a_word_whose_thing_is_gone_again_is_told_with_its_name(self):
        calls = [later(0, 7), later(0, 8), later(5, 7), apply(), parts(0, 0), parts(1, 0)]
        self.assertEqual(run(*calls)[3:], [[1, 2, 7, 0, 0, 8, 1, 0], [-2], [0]])
        calls = [later(0, 7), later(1, 0, 0), later(0, 8), apply()]
        self.assertEqual(last(*calls), [1, 2, 7, 0, 0, 8, 0, 1])

    def test_a_word_does_not_mean_the_next_thing_at_that_place(self):
        calls = [later(0, 7), later(5, 7), later(0, 8), later(4, 7, 1, 5), later(5, 7), apply(), parts(0, 1)]
        self.assertEqual(run(*calls)[5:], [[1, 2, 7, 0, 0, 8, 0, 1], [0]])

    def test_a_word_given_again_when_its_thing_is_gone(self):
        calls = [later(0, 7), later(5, 7), later(0, 7), later(4, 7, 1, 5), apply(), parts(0, 1)]
        self.assertEqual(run(*calls)[4:], [[1, 1, 7, 0, 1], [1, 1, 5]])

    def test_a_word_that_was_not_given_does_nothing(self):
        calls = [make(1, 5), later(4, 0, 2, 6), later(5, 0), later(5, TOP), apply(), parts(0, 0), count()]
        self.assertEqual(run(*calls)[4:], [[1, 0], [1, 1, 5], [1, 0, 0]])

    def test_a_word_that_is_given_behind_the_change_only(self):
        calls = [later(4, 7, 2, 6), later(5, 7), later(0, 7, 1, 5), apply(), parts(0, 0)]
        self.assertEqual(run(*calls)[3:], [[1, 1, 7, 0, 0], [1, 1, 5]])

    def test_a_word_given_at_an_earlier_apply_only(self):
        calls = [later(0, 7, 1, 5), apply(), later(4, 7, 1, 6), later(5, 7), apply(), parts(0, 0)]
        self.assertEqual(run(*calls)[4:], [[1, 0], [1, 1, 5]])

    def test_a_word_given_at_an_earlier_apply_and_now(self):
        calls = [later(0, 7), apply(), later(0, 8), later(0, 7), later(4, 7, 1, 6), apply(), parts(0, 0), parts(2, 0)]
        self.assertEqual(run(*calls)[5:], [[3, 2, 8, 1, 0, 7, 2, 0], [0], [1, 1, 6]])

    def test_30_words(self):
        calls = [call for word in range(10) for call in (later(0, word), later(0, 20 + word), later(5, word))]
        answer = last(*calls, apply())
        self.assertEqual(answer[:2], [10, 20])
        self.assertEqual(answer[2::3], [word for number in range(10) for word in (number, 20 + number)])


class PutOffNoMore(unittest.TestCase):
    def test_nothing_put_off(self):
        self.assertEqual(last(apply()), [0, 0])
        self.assertEqual(run(make(1, 5), apply(), parts(0, 0))[1:], [[1, 0], [1, 1, 5]])

    def test_nothing_put_off_with_20_things(self):
        self.assertEqual(last(*FULL, apply()), [20, 0])

    def test_what_is_done_is_not_done_again(self):
        calls = [make(), later(0, 7), later(2, 0, 0, 1, 5), apply(), take(0, 0, 1), apply(), parts(0, 0), count()]
        self.assertEqual(run(*calls)[3:], [[2, 1, 7, 1, 0], [0], [2, 0], [0], [2, 0, 0]])

    def test_later_counts_from_1_again(self):
        self.assertEqual(run(later(5, 0), later(5, 0), apply(), later(5, 0))[1:], [[2], [0, 0], [1]])

    def test_there_is_room_for_30_again(self):
        answered = run(*[later(5, 0)] * 30, later(5, 0), apply(), *[later(5, 0)] * 8)
        self.assertEqual(answered[30:], [[-5], [0, 0], [1], [2], [3], [4], [5], [6], [7], [8]])

    def test_changes_that_do_nothing_are_put_off_no_more_too(self):
        calls = [later(2, 0, 0, 1, 5), later(4, 7, 1, 5), apply(), make(), later(0, 7), apply(), parts(0, 0),
                 parts(1, 0)]
        self.assertEqual(run(*calls)[2:], [[0, 0], [0, 0], [1], [2, 1, 7, 1, 0], [0], [0]])

    def test_a_change_that_was_refused_is_not_done(self):
        calls = [make(1, 5), later(2, 0, 0, 16, 0), later(3, 0, 0, 16), later(0, 7, 1, 10000), later(4, 7, 0, 10000),
                 apply(), parts(0, 0)]
        self.assertEqual(run(*calls)[5:], [[1, 0], [1, 1, 5]])

    def test_the_31st_is_not_done(self):
        calls = [make(), *[later(2, 0, 0, 1, number) for number in range(31)], apply(), get(0, 0, 1)]
        self.assertEqual(run(*calls)[31:], [[-5], [1, 0], [29]])

    def test_things_made_by_it_are_like_others(self):
        calls = [later(0, 7, 1, 5), apply(), put(0, 0, 2, 6), take(0, 0, 1), parts(0, 0), gone(0, 0), make()]
        self.assertEqual(run(*calls)[2:], [[0], [0], [1, 2, 6], [0], [0, 1]])


class Twenty(unittest.TestCase):
    def test_20_at_the_end(self):
        self.assertEqual(run(*FULL[:18], later(0, 1), later(0, 2), apply(), make())[20:],
                         [[20, 2, 1, 18, 0, 2, 19, 0], [-5]])

    def test_21_at_the_end_are_refused(self):
        self.assertEqual(last(*FULL[:19], later(0, 1), later(0, 2), apply()), [-5])
        self.assertEqual(last(*FULL, later(0, 1), apply()), [-5])

    def test_20_and_21_of_those_put_off_alone(self):
        told = [number for word in range(20) for number in (word, word, 0)]
        self.assertEqual(last(*[later(0, word) for word in range(20)], apply()), [20, 20, *told])
        self.assertEqual(last(*[later(0, word) for word in range(21)], apply()), [-5])
        self.assertEqual(last(*[later(0, word) for word in range(30)], apply()), [-5])

    def test_the_same_word_makes_as_many_things(self):
        self.assertEqual(last(*[later(0, 7) for number in range(20)], apply()), [20, 1, 7, 19, 0])
        self.assertEqual(last(*[later(0, 7) for number in range(21)], apply()), [-5])

    def test_21_meanwhile_but_20_at_the_end(self):
        calls = [*FULL, later(0, 7, 1, 5), later(1, 3, 0), apply(), parts(20, 0), make(), gone(20, 0), make()]
        self.assertEqual(run(*calls)[22:], [[20, 1, 7, 20, 0], [1, 1, 5], [-5], [19], [3, 1]])

    def test_21_meanwhile_and_the_new_one_gone(self):
        calls = [*FULL, later(0, 7), later(5, 7), apply(), parts(20, 0), count()]
        self.assertEqual(run(*calls)[22:], [[20, 1, 7, 20, 0], [-2], [20, 0, 1]])

    def test_a_place_above_19_is_used_again_with_one_turn_more(self):
        calls = [*FULL, later(0, 7), later(5, 7), apply(), later(0, 8), later(1, 0, 0), apply(), ask()]
        names = [number for place in range(1, 20) for number in (place, 0)]
        self.assertEqual(run(*calls)[25:], [[20, 1, 8, 20, 1], [20, *names, 20, 1]])

    def test_35_meanwhile_but_20_at_the_end(self):
        made = [later(0, word) for word in range(15)]
        done = [later(5, word) for word in range(15)]
        told = [number for word in range(15) for number in (word, word, 0)]
        self.assertEqual(last(*made, *done, apply()), [0, 15, *told])
        calls = [*FULL, *made[:9], *[later(1, place, 0) for place in range(9)], apply(), ask()]
        names = [number for place in range(9, 29) for number in (place, 0)]
        told = [number for word in range(9) for number in (word, 20 + word, 0)]
        self.assertEqual(run(*calls)[38:], [[20, 9, *told], [20, *names]])

    def test_a_gone_that_does_nothing_makes_no_room(self):
        calls = [*FULL, later(0, 7), later(1, 0, 1), later(5, 8), apply(), count()]
        self.assertEqual(run(*calls)[23:], [[-5], [20, 3, 0]])


class Refused(unittest.TestCase):
    """Refused, nothing is done, and all is still put off."""

    CALLS = [make(1, 5), *FULL[1:], keep([1]), fresh(0), later(2, 0, 0, 1, 6), later(3, 0, 0, 1), later(1, 1, 0),
             later(0, 7, 1, 1), later(0, 8), later(4, 8, 2, 2), apply()]

    def test_the_things_are_as_they_were(self):
        calls = [*self.CALLS, parts(0, 0), parts(1, 0), parts(1, 1), parts(20, 0), count(), make(), gone(1, 0), make()]
        wanted = [[-5], [1, 1, 5], [0], [-2], [-2], [20, 6, 0], [-5], [19], [1, 1]]
        self.assertEqual(run(*calls)[28:], wanted)

    def test_what_is_kept_is_as_it_was(self):
        self.assertEqual(run(*self.CALLS, fresh(0), keep())[28:], [[-5], [0, 0], [1]])

    def test_all_is_still_put_off_and_done_when_there_is_room(self):
        calls = [*self.CALLS, later(5, 99), gone(2, 0), apply(), parts(0, 0), parts(1, 1), parts(2, 1), fresh(0),
                 count()]
        wanted = [[-5], [7], [19], [20, 2, 7, 1, 1, 8, 2, 1], [0], [1, 1, 1], [1, 2, 2], [1, 1, 1, 1, 0, 0], [20, 0, 2]]
        self.assertEqual(run(*calls)[28:], wanted)

    def test_refused_again_and_again(self):
        self.assertEqual(run(*self.CALLS, apply(), apply(), count(), make(16, 0))[28:],
                         [[-5], [-5], [-5], [20, 6, 0], [-1]])

    def test_a_change_behind_may_make_room(self):
        calls = [*self.CALLS, later(5, 7), apply(), count()]
        self.assertEqual(run(*calls)[28:], [[-5], [7], [20, 2, 7, 1, 1, 8, 20, 0], [20, 0, 2]])

    def test_words_of_a_refused_one_are_given_when_it_is_done(self):
        calls = [*FULL, later(0, 7), apply(), gone(19, 0), later(4, 7, 3, 3), apply(), parts(19, 1)]
        self.assertEqual(run(*calls)[21:], [[-5], [19], [2], [20, 1, 7, 19, 1], [1, 3, 3]])


if __name__ == "__main__":
    unittest.main()
