"""Points 1 to 6: met, merged and still_open."""

from itertools import product

from lampwish.errors import LampError, NoMerge, NoSetting
from lampwish.wishes import merged, met, still_open
from tests.helper import PureCase, settings

LETTERS = (1, -1, 2, -2)


def small_wishes(longest):
    return [list(wish) for size in range(longest + 1) for wish in product(LETTERS, repeat=size)]


class Met(PureCase):
    def test_one_letter(self):
        self.assertIs(self.answer(met, [1], [True]), True)
        self.assertIs(self.answer(met, [1], [False]), False)
        self.assertIs(self.answer(met, [-1], [True]), False)
        self.assertIs(self.answer(met, [-1], [False]), True)

    def test_at_least_one_letter_is_enough_wherever_it_stands(self):
        self.assertIs(self.answer(met, [1, 2, 3], [True, False, False]), True)
        self.assertIs(self.answer(met, [1, 2, 3], [False, True, False]), True)
        self.assertIs(self.answer(met, [1, 2, 3], [False, False, True]), True)
        self.assertIs(self.answer(met, [1, 2, 3], [False, False, False]), False)
        self.assertIs(self.answer(met, [-1, -3], [True, False, True]), False)
        self.assertIs(self.answer(met, [-3, 2, -1], [True, False, False]), True)

    def test_the_letter_speaks_of_the_lamp_of_its_number(self):
        for lamp in range(1, 6):
            setting = [number == lamp for number in range(1, 6)]
            for other in range(1, 6):
                self.assertIs(self.answer(met, [other], setting), other == lamp)
                self.assertIs(self.answer(met, [-other], setting), other != lamp)

    def test_an_empty_wish_is_met_by_none(self):
        for setting in settings(0) + settings(1) + settings(3):
            self.assertIs(self.answer(met, [], setting), False)

    def test_a_letter_twice(self):
        self.assertIs(self.answer(met, [2, 2], [False, True]), True)
        self.assertIs(self.answer(met, [2, 2], [True, False]), False)
        self.assertIs(self.answer(met, [-2, 1, -2], [False, True]), False)

    def test_a_letter_beside_its_opposite_is_met_by_all(self):
        for wish in ([2, -2], [-2, 2], [1, -2, 2]):
            for setting in settings(2):
                self.assertIs(self.answer(met, wish, setting), True)

    def test_many_lamps_and_long_wishes(self):
        dark = [False] * 1500
        self.assertIs(self.answer(met, list(range(1, 1501)), dark), False)
        self.assertIs(self.answer(met, list(range(1, 1500)) + [-1500], dark), True)
        self.assertIs(self.answer(met, [1500], dark[:-1] + [True]), True)

    def test_all_small_wishes(self):
        for wish in small_wishes(3):
            for setting in settings(2):
                so = [1 if setting[0] else -1, 2 if setting[1] else -2]
                self.assertIs(self.answer(met, wish, setting), any(letter in so for letter in wish))


class Merged(PureCase):
    def test_the_letters_of_both_but_the_lamp(self):
        self.assertEqual(self.answer(merged, [1, 2], [-1, 3], 1), [2, 3])
        self.assertEqual(self.answer(merged, [2, 5], [4, -5], 5), [2, 4])

    def test_nothing_is_left_of_two_single_letters(self):
        self.assertEqual(self.answer(merged, [7], [-7], 7), [])

    def test_rising_order_as_whole_numbers(self):
        self.assertEqual(self.answer(merged, [10, 1, -3], [2, -1, -20], 1), [-20, -3, 2, 10])
        self.assertEqual(self.answer(merged, [9, 3, 100], [-3, 20, -4], 3), [-4, 9, 20, 100])

    def test_each_letter_once(self):
        self.assertEqual(self.answer(merged, [1, 2, 2], [3, -1, 3], 1), [2, 3])
        self.assertEqual(self.answer(merged, [1, 2], [-1, 2], 1), [2])

    def test_the_lamp_goes_however_often_it_stands(self):
        self.assertEqual(self.answer(merged, [1, 1, 2], [-1, 3, -1], 1), [2, 3])

    def test_opposites_of_another_lamp_both_stay(self):
        self.assertEqual(self.answer(merged, [1, 2], [-1, -2], 1), [-2, 2])

    def test_the_opposite_in_the_first_stays(self):
        self.assertEqual(self.answer(merged, [1, -1], [-1, 2], 1), [-1, 2])
        self.assertEqual(self.answer(merged, [-1, 1, 3], [-1], 1), [-1, 3])

    def test_the_lamp_in_the_second_stays(self):
        self.assertEqual(self.answer(merged, [1, 2], [-1, 1], 1), [1, 2])
        self.assertEqual(self.answer(merged, [1], [1, -1, -3], 1), [-3, 1])

    def test_both_stay_where_both_wishes_have_both(self):
        self.assertEqual(self.answer(merged, [1, -1], [1, -1], 1), [-1, 1])

    def test_lamps_numbered_high(self):
        high = 10 ** 30
        self.assertEqual(self.answer(merged, [high, 2000], [-high, -1001], high), [-1001, 2000])

    def test_long_wishes(self):
        one = list(range(1500, 0, -1))
        two = [-letter for letter in one]
        rest = sorted([letter for letter in one + two if abs(letter) != 700])
        self.assertEqual(self.answer(merged, one, two, 700), rest)

    def test_refused_where_the_first_lacks_the_lamp(self):
        for one in ([], [2], [-1], [-1, 2], [11]):
            self.refused(NoMerge, merged, one, [-1, 3], 1)

    def test_refused_where_the_second_lacks_the_opposite(self):
        for two in ([], [3], [1], [1, 3], [-11]):
            self.refused(NoMerge, merged, [1, 2], two, 1)

    def test_refused_where_both_lack_it_or_stand_the_other_way_round(self):
        self.refused(NoMerge, merged, [], [], 1)
        self.refused(NoMerge, merged, [2], [3], 1)
        self.refused(NoMerge, merged, [-1], [1], 1)

    def test_the_refusal_is_taken_by_its_bases(self):
        for error in (LampError, ValueError):
            self.assertIsInstance(self.refused(error, merged, [2], [-1], 1), NoMerge)
            self.assertIsInstance(self.refused(error, merged, [1], [2], 1), NoMerge)
        self.assertNotIsInstance(self.refused(LampError, merged, [], [], 1), NoSetting)

    def test_all_small_wishes(self):
        for one in small_wishes(2):
            for two in small_wishes(2):
                for lamp in (1, 2):
                    self.check_small(one, two, lamp)

    def check_small(self, one, two, lamp):
        if lamp not in one or -lamp not in two:
            self.refused(NoMerge, merged, one, two, lamp)
            return
        made = self.answer(merged, one, two, lamp)
        self.assertEqual(made, sorted((set(one) - {lamp}) | (set(two) - {-lamp})))
        for setting in settings(2):
            if met(one, setting) and met(two, setting):
                self.assertTrue(met(made, setting))


class StillOpen(PureCase):
    def test_none_where_the_wish_is_kept(self):
        self.assertIsNone(self.answer(still_open, [1, 2], [1]))
        self.assertIsNone(self.answer(still_open, [1, 2], [2]))
        self.assertIsNone(self.answer(still_open, [-3, 2], [1, -3]))

    def test_kept_though_other_letters_are_not_so_or_open(self):
        self.assertIsNone(self.answer(still_open, [1, 2, 3], [-1, 3]))
        self.assertIsNone(self.answer(still_open, [3, 2, 1], [3, -1]))

    def test_letters_whose_opposite_is_not_among_them(self):
        self.assertEqual(self.answer(still_open, [1, 2, 3], [-2]), [1, 3])
        self.assertEqual(self.answer(still_open, [1, -2], [2]), [1])
        self.assertEqual(self.answer(still_open, [-1, 2], [3, -4]), [-1, 2])

    def test_no_open_letter(self):
        self.assertEqual(self.answer(still_open, [1, -2], [-1, 2]), [])

    def test_no_letters_leave_all_open(self):
        self.assertEqual(self.answer(still_open, [2, 1], []), [2, 1])

    def test_an_empty_wish_has_no_open_letter_and_is_not_kept(self):
        self.assertEqual(self.answer(still_open, [], []), [])
        self.assertEqual(self.answer(still_open, [], [1, -2]), [])

    def test_each_once_in_the_order_in_which_they_first_stand(self):
        self.assertEqual(self.answer(still_open, [3, -1, 3, 2, -1], [-2]), [3, -1])
        self.assertEqual(self.answer(still_open, [5, 4, 5, -6, 4], []), [5, 4, -6])
        self.assertEqual(self.answer(still_open, [2, 2], [1]), [2])

    def test_a_letter_beside_its_opposite(self):
        self.assertEqual(self.answer(still_open, [-1, 1], []), [-1, 1])
        self.assertIsNone(self.answer(still_open, [-1, 1], [1]))
        self.assertIsNone(self.answer(still_open, [-1, 1], [-1]))

    def test_lamps_numbered_high(self):
        high = 10 ** 30
        self.assertEqual(self.answer(still_open, [high, -2000, 3], [2000]), [high, 3])
        self.assertIsNone(self.answer(still_open, [3, -high], [-high]))

    def test_long_wishes_and_letters(self):
        wish = list(range(1, 2001))
        letters = [-letter for letter in wish[:-1]]
        self.assertEqual(self.answer(still_open, wish, letters), [2000])

    def test_all_small_wishes(self):
        trails = [[]] + [[one] for one in LETTERS] + [[one, two] for one in (1, -1) for two in (2, -2)]
        for wish in small_wishes(3):
            for letters in trails:
                told = self.answer(still_open, wish, letters)
                if set(wish) & set(letters):
                    self.assertIsNone(told)
                else:
                    free = [letter for letter in wish if -letter not in letters]
                    self.assertEqual(told, sorted(set(free), key=free.index))
