"""Points 1 and 5 to 8: broken, forced and first_free."""

from random import Random

from lampwish.forcing import broken, first_free, forced
from tests.helper import PureCase, drawn_halls, plainly_broken, plainly_forced


def drawn_trails():
    """Halls, each with a trail of guesses."""
    source = Random(7)
    drawn = []
    for count, wishes in drawn_halls(7, 1500, 5):
        lamps = source.sample(range(1, count + 1), source.randrange(count + 1))
        drawn.append((count, wishes, [(source.choice((lamp, -lamp)), None) for lamp in lamps]))
    return drawn


class Broken(PureCase):
    def test_the_first_broken_wish(self):
        wishes = [[1, 2], [-1], [2, 3], [-1, 2]]
        self.assertEqual(self.answer(broken, wishes, [(1, None), (-2, None)]), 1)
        self.assertEqual(self.answer(broken, wishes, [(-2, None), (-3, 2)]), 2)

    def test_wish_nought_is_told_as_nought(self):
        told = self.answer(broken, [[1], [1]], [(-1, None)])
        self.assertEqual(told, 0)
        self.assertIsNotNone(told)

    def test_none_where_wishes_are_kept_or_have_an_open_letter(self):
        self.assertIsNone(self.answer(broken, [[1, 2], [-2, 3]], [(1, None), (2, None)]))
        self.assertIsNone(self.answer(broken, [[1, 2], [2]], [(-1, None)]))

    def test_a_kept_wish_is_not_broken_though_it_has_no_open_letter(self):
        self.assertIsNone(self.answer(broken, [[1, -2]], [(1, None), (2, None)]))

    def test_an_empty_wish_is_broken_by_every_trail(self):
        self.assertEqual(self.answer(broken, [[]], []), 0)
        self.assertEqual(self.answer(broken, [[1], [2, 3], []], []), 2)
        self.assertEqual(self.answer(broken, [[1], []], [(1, 0)]), 1)

    def test_an_empty_trail_breaks_no_other(self):
        self.assertIsNone(self.answer(broken, [[1], [-1], [2, 2]], []))

    def test_no_wishes(self):
        self.assertIsNone(self.answer(broken, [], []))
        self.assertIsNone(self.answer(broken, [], [(1, None)]))

    def test_a_letter_twice_or_beside_its_opposite(self):
        self.assertEqual(self.answer(broken, [[2, -2], [2, 2]], [(-2, None)]), 1)
        self.assertIsNone(self.answer(broken, [[2, -2], [2, 2]], [(2, None)]))

    def test_lamps_numbered_high(self):
        high = 10 ** 30
        self.assertEqual(self.answer(broken, [[1], [high, 2000]], [(-2000, None), (-high, None)]), 1)

    def test_many_wishes_and_a_long_trail(self):
        trail = [(-lamp, None) for lamp in range(1, 2001)]
        wishes = [[-lamp, lamp + 1] for lamp in range(1, 2000)] + [[2000]]
        self.assertEqual(self.answer(broken, wishes, trail), 1999)

    def test_drawn_halls(self):
        for count, wishes, trail in drawn_trails():
            expected = plainly_broken(wishes, trail)
            self.assertEqual(self.answer(broken, wishes, trail), expected[0] if expected else None)


class Forced(PureCase):
    def test_a_chain(self):
        self.assertEqual(self.answer(forced, [[-1, 2], [-2, -3]], [(1, None)]), [(1, None), (2, 0), (-3, 1)])

    def test_from_the_beginning_each_time(self):
        self.assertEqual(self.answer(forced, [[-3, 4], [3], [5]], []), [(3, 1), (4, 0), (5, 2)])
        self.assertEqual(self.answer(forced, [[-2, 3], [-1, 2], [1]], []), [(1, 2), (2, 1), (3, 0)])

    def test_the_first_of_several_forces(self):
        self.assertEqual(self.answer(forced, [[2], [1], [2]], []), [(2, 0), (1, 1)])

    def test_the_order_of_the_letters_does_not_matter(self):
        self.assertEqual(self.answer(forced, [[2, -1], [-3, -2]], [(1, None)]), [(1, None), (2, 0), (-3, 1)])

    def test_it_ends_where_a_wish_is_broken(self):
        self.assertEqual(self.answer(forced, [[1], [-1], [2]], []), [(1, 0)])
        self.assertEqual(self.answer(forced, [[2], [-1, 3], [-1, -3], [4]], [(1, None)]),
                         [(1, None), (2, 0), (3, 1)])

    def test_a_trail_that_breaks_a_wish_goes_no_further(self):
        trail = [(-3, None)]
        self.assertEqual(self.answer(forced, [[1], [2, 3], [3]], trail), trail)

    def test_it_ends_where_no_wish_forces(self):
        self.assertEqual(self.answer(forced, [[1, 2], [-1, -2]], []), [])
        self.assertEqual(self.answer(forced, [[1, 2, 3]], [(-1, None)]), [(-1, None)])

    def test_a_kept_wish_with_one_open_letter_does_not_force(self):
        self.assertEqual(self.answer(forced, [[1, 2]], [(1, None)]), [(1, None)])

    def test_an_empty_wish_ends_it_at_once(self):
        self.assertEqual(self.answer(forced, [[1], []], []), [])
        self.assertEqual(self.answer(forced, [[2], []], [(1, None)]), [(1, None)])

    def test_a_letter_twice_is_one_open_letter(self):
        self.assertEqual(self.answer(forced, [[2, 2]], []), [(2, 0)])
        self.assertEqual(self.answer(forced, [[-1, 3, -1, 3], [-3, -3, 2]], [(1, None)]),
                         [(1, None), (3, 0), (2, 1)])

    def test_a_letter_twice_that_is_not_so_goes_once(self):
        self.assertEqual(self.answer(forced, [[1], [-1, -1, 2, 3]], []), [(1, 0)])
        self.assertEqual(self.answer(forced, [[1], [-1, -1, 2, 2]], []), [(1, 0), (2, 1)])

    def test_a_letter_beside_its_opposite_forces_nothing(self):
        self.assertEqual(self.answer(forced, [[1, -1]], []), [])
        self.assertEqual(self.answer(forced, [[1], [1, -1, 2]], []), [(1, 0)])
        self.assertEqual(self.answer(forced, [[-1], [1, -1, 2], [1, -1]], []), [(-1, 0)])
        self.assertEqual(self.answer(forced, [[2], [-2, 1, -1]], []), [(2, 0)])

    def test_no_wishes(self):
        self.assertEqual(self.answer(forced, [], []), [])
        self.assertEqual(self.answer(forced, [], [(1, None), (-2, 5)]), [(1, None), (-2, 5)])

    def test_the_pairs_handed_in_stay_in_front(self):
        trail = [(4, None), (-2, 3), (1, None)]
        self.assertEqual(self.answer(forced, [[-1, -4, 3]], trail), trail + [(3, 0)])

    def test_the_pairs_are_tuples_in_a_list(self):
        told = self.answer(forced, [[1], [-1, 2]], [])
        self.assertIs(type(told), list)
        self.assertEqual([type(pair) for pair in told], [tuple, tuple])

    def test_lamps_numbered_high(self):
        high = 10 ** 30
        self.assertEqual(self.answer(forced, [[-2000, -high], [high]], []), [(high, 1), (-2000, 0)])

    def test_long_chains(self):
        up = [[1]] + [[-lamp, lamp + 1] for lamp in range(1, 1500)]
        self.assertEqual(self.answer(forced, up, []), [(lamp, lamp - 1) for lamp in range(1, 1501)])
        down = list(reversed(up))
        self.assertEqual(self.answer(forced, down, []), [(lamp, 1500 - lamp) for lamp in range(1, 1501)])

    def test_drawn_halls(self):
        for count, wishes, trail in drawn_trails():
            self.assertEqual(self.answer(forced, wishes, trail), plainly_forced(wishes, trail))

    def test_going_on_again_adds_nothing(self):
        for count, wishes, trail in drawn_trails():
            told = self.answer(forced, wishes, trail)
            self.assertEqual(self.answer(forced, wishes, told), told)


class FirstFree(PureCase):
    def test_the_first_lamp_without_a_letter(self):
        self.assertEqual(self.answer(first_free, 3, [(1, None)]), 2)
        self.assertEqual(self.answer(first_free, 3, [(2, None), (3, 0)]), 1)
        self.assertEqual(self.answer(first_free, 4, [(3, None), (1, 0)]), 2)

    def test_a_dark_lamp_is_set_too(self):
        self.assertEqual(self.answer(first_free, 3, [(-1, None), (2, 0)]), 3)
        self.assertEqual(self.answer(first_free, 3, [(-2, 4), (-1, None)]), 3)

    def test_none_where_all_are_set(self):
        self.assertIsNone(self.answer(first_free, 1, [(1, None)]))
        self.assertIsNone(self.answer(first_free, 3, [(-3, None), (1, 2), (-2, 0)]))

    def test_the_last_lamp_counts(self):
        self.assertEqual(self.answer(first_free, 3, [(1, None), (2, None)]), 3)
        self.assertEqual(self.answer(first_free, 1, []), 1)

    def test_an_empty_trail(self):
        self.assertEqual(self.answer(first_free, 5, []), 1)

    def test_no_lamps(self):
        self.assertIsNone(self.answer(first_free, 0, []))

    def test_more_than_a_thousand_lamps(self):
        trail = [(lamp if lamp % 2 else -lamp, None) for lamp in range(1, 5001)]
        self.assertIsNone(self.answer(first_free, 5000, trail))
        self.assertEqual(self.answer(first_free, 5001, trail), 5001)
        self.assertEqual(self.answer(first_free, 5000, trail[:1233] + trail[1234:]), 1234)

    def test_a_count_far_beyond_the_trail(self):
        self.assertEqual(self.answer(first_free, 10 ** 30, [(10 ** 30, None), (1, None)]), 2)

    def test_drawn_halls(self):
        for count, wishes, trail in drawn_trails():
            free = sorted(set(range(1, count + 1)) - {abs(letter) for letter, why in trail})
            self.assertEqual(self.answer(first_free, count, trail), free[0] if free else None)
