import unittest

from tests.helper import TOP, run, get, gone, last, later, make, parts, put, take

THIRTY = [later(5, word) for word in range(30)]


class Forms(unittest.TestCase):
    def assert_taken(self, *change):
        self.assertEqual(run(later(*change), later(5, 0)), [[1], [2]])

    def assert_refused(self, *change):
        """Refused, with nothing put off; and so too, ahead of -5, when 30 are put off."""
        self.assertEqual(run(later(*change), later(5, 0)), [[-1], [1]])
        self.assertEqual(last(*THIRTY, later(*change)), [-1])

    def test_made(self):
        self.assert_taken(0, 7, 1, 2, 3, 4)
        self.assert_taken(0, 0, 0, 0)
        self.assert_taken(0, TOP, 0, 0, 15, 9999)

    def test_made_without_parts(self):
        self.assert_taken(0, 0)
        self.assert_taken(0, TOP)

    def test_made_with_all_16_kinds(self):
        self.assert_taken(0, 3, *[number for kind in range(16) for number in (kind, 9999)])

    def test_made_with_wrong_kinds(self):
        self.assert_refused(0, 7, 16, 0)
        self.assert_refused(0, 7, 0, 0, 15, 0, 16, 0)
        self.assert_refused(0, 7, TOP, 0)

    def test_made_with_wrong_values(self):
        self.assert_refused(0, 7, 0, 10000)
        self.assert_refused(0, 7, 0, 10000, 1, 0)
        self.assert_refused(0, 7, 0, 0, 1, 10000)
        self.assert_refused(0, 7, 0, TOP)

    def test_made_with_parts_that_do_not_rise(self):
        self.assert_refused(0, 7, 4, 1, 4, 2)
        self.assert_refused(0, 7, 5, 1, 4, 2)
        self.assert_refused(0, 7, 1, 0, 9, 0, 5, 0)

    def test_made_with_20_parts(self):
        self.assert_refused(0, 7, *[number for kind in range(20) for number in (kind, 1)])

    def test_the_word_is_no_part_and_may_be_any(self):
        self.assert_taken(0, 16, 1, 1)
        self.assert_taken(0, 10000, 1, 1)
        self.assert_taken(0, 15, 0, 1)

    def test_gone(self):
        self.assert_taken(1, 0, 0)
        self.assert_taken(1, 16, 10000)
        self.assert_taken(1, TOP, TOP)

    def test_put_on(self):
        self.assert_taken(2, 0, 0, 0, 0)
        self.assert_taken(2, 0, 0, 15, 9999)
        self.assert_taken(2, TOP, TOP, 15, 9999)

    def test_put_on_with_a_wrong_kind_or_value(self):
        self.assert_refused(2, 0, 0, 16, 0)
        self.assert_refused(2, 0, 0, 0, 10000)
        self.assert_refused(2, 0, 0, 16, 10000)
        self.assert_refused(2, 0, 0, TOP, 0)
        self.assert_refused(2, 0, 0, 0, TOP)
        self.assert_refused(2, TOP, TOP, TOP, TOP)

    def test_taken_off(self):
        self.assert_taken(3, 0, 0, 0)
        self.assert_taken(3, 0, 0, 15)
        self.assert_taken(3, TOP, TOP, 15)

    def test_taken_off_with_a_wrong_kind(self):
        self.assert_refused(3, 0, 0, 16)
        self.assert_refused(3, 0, 0, TOP)
        self.assert_refused(3, TOP, TOP, TOP)

    def test_put_on_by_word(self):
        self.assert_taken(4, 0, 0, 0)
        self.assert_taken(4, 16, 15, 9999)
        self.assert_taken(4, TOP, 15, 9999)

    def test_put_on_by_word_with_a_wrong_kind_or_value(self):
        self.assert_refused(4, 0, 16, 0)
        self.assert_refused(4, 0, 0, 10000)
        self.assert_refused(4, 0, 16, 10000)
        self.assert_refused(4, 0, TOP, 0)
        self.assert_refused(4, 0, 0, TOP)
        self.assert_refused(4, TOP, TOP, TOP)

    def test_gone_by_word(self):
        self.assert_taken(5, 0)
        self.assert_taken(5, 16)
        self.assert_taken(5, TOP)


class HowMany(unittest.TestCase):
    def test_answers_how_many_are_put_off(self):
        calls = [later(0, 1), later(1, 0, 0), later(2, 0, 0, 1, 1), later(3, 0, 0, 1), later(4, 1, 1, 1), later(5, 1)]
        self.assertEqual(run(*calls), [[1], [2], [3], [4], [5], [6]])

    def test_the_same_change_twice_counts_twice(self):
        self.assertEqual(run(later(0, 1, 2, 3), later(0, 1, 2, 3)), [[1], [2]])

    def test_the_30th_and_the_31st(self):
        answered = run(*THIRTY, later(5, 0), later(5, 0))
        self.assertEqual(answered[:30], [[number] for number in range(1, 31)])
        self.assertEqual(answered[30:], [[-5], [-5]])

    def test_the_31st_is_refused_whatever_its_form(self):
        for change in ((0, 1), (0, 1, 2, 3), (1, 0, 0), (2, 0, 0, 1, 1), (3, 0, 0, 1), (4, 1, 1, 1), (5, 1)):
            with self.subTest(change=change):
                self.assertEqual(last(*THIRTY, later(*change)), [-5])

    def test_a_refused_one_does_not_count(self):
        calls = [*THIRTY[:29], later(3, 0, 0, 16), later(0, 1, 10000, 0), later(5, 0), later(5, 0)]
        self.assertEqual(run(*calls)[29:], [[-1], [-1], [30], [-5]])

    def test_20_things_do_not_hinder(self):
        self.assertEqual(last(*[make() for number in range(20)], later(0, 1)), [1])

    def test_other_calls_do_not_count(self):
        calls = [later(5, 0), make(1, 1), put(0, 0, 1, 2), gone(0, 0), get(0, 0, 0), later(5, 0)]
        self.assertEqual(last(*calls), [2])


class PutOff(unittest.TestCase):
    def test_what_is_put_off_is_not_done(self):
        calls = [make(1, 5), later(2, 0, 0, 1, 6), later(2, 0, 0, 2, 7), later(3, 0, 0, 1), later(1, 0, 0), parts(0, 0)]
        self.assertEqual(last(*calls), [1, 1, 5])

    def test_a_thing_made_later_takes_no_place(self):
        self.assertEqual(run(later(0, 1, 2, 3), parts(0, 0), make(), gone(0, 0)), [[1], [-2], [0, 0], [0]])

    def test_a_thing_made_later_does_not_count_among_20(self):
        calls = [*[make() for number in range(19)], later(0, 1), later(0, 2), make(), make()]
        self.assertEqual(run(*calls)[19:], [[1], [2], [19, 0], [-5]])

    def test_a_name_that_does_not_live_is_not_refused(self):
        calls = [later(1, 0, 0), later(2, 5, 5, 1, 1), later(3, 0, 0, 1)]
        self.assertEqual(run(*calls), [[1], [2], [3]])

    def test_a_name_may_go_while_its_change_is_put_off(self):
        calls = [make(1, 5), later(2, 0, 0, 1, 6), gone(0, 0), make(1, 7), take(0, 0, 1), get(0, 1, 1), later(5, 0)]
        self.assertEqual(run(*calls)[1:], [[1], [0], [0, 1], [-2], [7], [2]])

    def test_30_put_off_do_not_hinder_other_calls(self):
        others = [make(1, 5), put(0, 0, 2, 6), take(0, 0, 1), get(0, 0, 2), parts(0, 0), gone(0, 0)]
        calls = [*THIRTY, later(5, 0), *others]
        self.assertEqual(run(*calls)[30:], [[-5], [0, 0], [0], [0], [6], [1, 2, 6], [0]])


if __name__ == "__main__":
    unittest.main()
