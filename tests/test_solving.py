"""Points 1 to 18: gone_back, solved, all_settings, follows and sure."""

from random import Random

from lampwish.errors import LampError, NoMerge, NoSetting
from lampwish.showing import shows
from lampwish.solving import all_settings, follows, gone_back, solved, sure
from tests.helper import (PureCase, crowded, drawn_halls, letters_up_to, plain_settings, plainly_gone_back,
                          plainly_met, plainly_shows, plainly_solved)

CONTRARY = [[999, 1000], [999, -1000], [-999, 1000], [-999, -1000]]


class GoneBack(PureCase):
    def test_a_guess_turned_by_the_broken_wish_itself(self):
        self.assertEqual(self.answer(gone_back, [[-1]], [(1, None)], 0), ([(-1, 0)], []))
        self.assertEqual(self.answer(gone_back, [[3], [2]], [(-2, None)], 1), ([(2, 1)], []))

    def test_one_step_with_a_lit_letter(self):
        told = self.answer(gone_back, [[-1, 2], [-1, -2]], [(1, None), (2, 0)], 1)
        self.assertEqual(told, ([(-1, 2)], [(0, 1, 2, [-1])]))

    def test_one_step_with_a_dark_letter(self):
        told = self.answer(gone_back, [[-1, -2], [2, -1]], [(1, None), (-2, 0)], 1)
        self.assertEqual(told, ([(-1, 2)], [(1, 0, 2, [-1])]))

    def test_several_steps_each_from_the_wish_made(self):
        wishes = [[-1, 2], [-2, -3], [-2, 3, 4], [-4, -1]]
        trail = [(1, None), (2, 0), (-3, 1), (4, 2)]
        steps = [(2, 3, 4, [-2, -1, 3]), (4, 1, 3, [-2, -1]), (0, 5, 2, [-1])]
        self.assertEqual(self.answer(gone_back, wishes, trail, 3), ([(-1, 6)], steps))

    def test_letters_that_the_wish_in_hand_does_not_speak_of_are_only_taken_off(self):
        wishes = [[-3, 4], [-1, 2], [-2, -1], [5, -6]]
        trail = [(1, None), (2, 1), (3, None), (4, 0), (6, None), (5, 3)]
        self.assertEqual(self.answer(gone_back, wishes, trail, 2), ([(-1, 4)], [(1, 2, 2, [-1])]))

    def test_the_last_guess_that_it_speaks_of_is_turned(self):
        wishes = [[-1, -2]]
        trail = [(4, None), (1, None), (3, None), (2, None), (5, None)]
        self.assertEqual(self.answer(gone_back, wishes, trail, 0), (trail[:3] + [(-2, 0)], []))

    def test_what_stands_before_the_guess_stays(self):
        wishes = [[-1, 4], [-2, 3], [-3, -2, -1]]
        trail = [(1, None), (4, 0), (2, None), (3, 1)]
        self.assertEqual(self.answer(gone_back, wishes, trail, 2),
                         ([(1, None), (4, 0), (-2, 3)], [(1, 2, 3, [-2, -1])]))

    def test_a_dark_guess_is_turned_too(self):
        self.assertEqual(self.answer(gone_back, [[1, 2], [1, -2]], [(-1, None), (2, 0)], 1),
                         ([(1, 2)], [(0, 1, 2, [1])]))

    def test_back_to_an_empty_trail(self):
        self.assertEqual(self.answer(gone_back, [[1], [-1]], [(1, 0)], 1), ([], [(0, 1, 1, [])]))
        self.assertEqual(self.answer(gone_back, [[-1], [1]], [(-1, 0)], 1), ([], [(1, 0, 1, [])]))
        wishes = [[1], [-1, 2], [-2, -1]]
        self.assertEqual(self.answer(gone_back, wishes, [(1, 0), (2, 1)], 2),
                         ([], [(1, 2, 2, [-1]), (0, 3, 1, [])]))

    def test_back_over_guesses_to_an_empty_trail(self):
        wishes = [[1], [-1]]
        self.assertEqual(self.answer(gone_back, wishes, [(1, 0), (2, None), (-3, None)], 1), ([], [(0, 1, 1, [])]))

    def test_an_empty_wish_goes_back_to_the_empty_trail_without_a_step(self):
        self.assertEqual(self.answer(gone_back, [[]], [], 0), ([], []))
        self.assertEqual(self.answer(gone_back, [[1], []], [(1, 0), (2, None)], 1), ([], []))

    def test_a_letter_twice(self):
        told = self.answer(gone_back, [[-1, 2, 2, -1], [-2, -2, -1, -1]], [(1, None), (2, 0)], 1)
        self.assertEqual(told, ([(-1, 2)], [(0, 1, 2, [-1])]))
        self.assertEqual(self.answer(gone_back, [[-1, -1]], [(1, None)], 0), ([(-1, 0)], []))

    def test_the_number_asked_for_and_no_other(self):
        wishes = [[-1], [-2], [-1, -2]]
        trail = [(2, None), (1, None)]
        self.assertEqual(self.answer(gone_back, wishes, trail, 0), ([(2, None), (-1, 0)], []))
        self.assertEqual(self.answer(gone_back, wishes, trail, 1), ([(-2, 1)], []))
        self.assertEqual(self.answer(gone_back, wishes, trail, 2), ([(2, None), (-1, 2)], []))

    def test_the_made_wishes_are_numbered_behind_all_given_ones(self):
        wishes = [[-1, 2], [-1, -2], [7], [8], [9]]
        told = self.answer(gone_back, wishes, [(1, None), (2, 0)], 1)
        self.assertEqual(told, ([(-1, 5)], [(0, 1, 2, [-1])]))

    def test_the_kinds(self):
        told = self.answer(gone_back, [[-1, 2], [-1, -2]], [(1, None), (2, 0)], 1)
        self.assertIs(type(told), tuple)
        trail, steps = told
        self.assertEqual([type(trail), type(steps)], [list, list])
        self.assertEqual([type(trail[0]), type(steps[0]), type(steps[0][3])], [tuple, tuple, list])

    def test_a_long_trail(self):
        wishes = [[-lamp, lamp + 1] for lamp in range(1, 1200)] + [[-1200, -1]]
        trail = [(1, None)] + [(lamp + 1, lamp - 1) for lamp in range(1, 1200)]
        back, steps = self.answer(gone_back, wishes, trail, 1199)
        self.assertEqual(back, [(-1, 1200 + 1198)])
        self.assertEqual(steps[0], (1198, 1199, 1200, [-1199, -1]))
        self.assertEqual(steps[1], (1197, 1200, 1199, [-1198, -1]))
        self.assertEqual(steps[-1], (0, 1200 + 1197, 2, [-1]))
        self.assertEqual(len(steps), 1199)

    def test_all_that_drawn_halls_go_back_from(self):
        falls = 0
        for count, wishes in drawn_halls(41, 1500, 7) + [crowded(4, 3)]:
            for fall in plainly_solved(count, wishes)[1]:
                self.assertEqual(self.answer(gone_back, *fall), plainly_gone_back(*fall))
                falls += 1
        self.assertGreater(falls, 400)


class Solved(PureCase):
    def is_yes(self, count, wishes, setting):
        self.assertEqual(self.answer(solved, count, wishes), ("yes", setting))

    def is_no(self, count, wishes, steps):
        self.assertEqual(self.answer(solved, count, wishes), ("no", steps))
        self.assertIs(shows(wishes, steps), True)

    def test_no_wishes(self):
        self.is_yes(0, [], [])
        self.is_yes(1, [], [True])
        self.is_yes(3, [], [True, True, True])

    def test_no_lamps_and_an_empty_wish(self):
        self.is_no(0, [[]], [])
        self.is_no(0, [[], []], [])

    def test_an_empty_wish_among_others(self):
        self.is_no(3, [[1], [2, 3], []], [])
        self.is_no(2, [[], [1], [-1]], [])
        self.is_no(2, [[1], [-1], []], [])

    def test_single_letters(self):
        self.is_yes(3, [[-2]], [True, False, True])
        self.is_yes(3, [[-3], [1], [-2]], [True, False, False])

    def test_single_letters_against_each_other(self):
        self.is_no(1, [[1], [-1]], [(0, 1, 1, [])])
        self.is_no(1, [[-1], [1]], [(1, 0, 1, [])])
        self.is_no(2, [[2], [1], [-2]], [(0, 2, 2, [])])

    def test_lamps_are_guessed_in_their_order_and_lit(self):
        self.is_yes(3, [[-1, -2], [-1, -3]], [True, False, False])
        self.is_yes(3, [[-3, -2]], [True, True, False])
        self.is_yes(3, [[-2, -1], [3, 2], [-3, -1, 2]], [False, True, True])

    def test_a_guess_that_is_turned(self):
        self.is_yes(2, [[-1, 2], [-1, -2]], [False, True])
        self.is_yes(1, [[-1, -1]], [False])

    def test_all_four_against_each_other(self):
        wishes = [[1, 2], [1, -2], [-1, 2], [-1, -2]]
        self.is_no(2, wishes, [(2, 3, 2, [-1]), (0, 1, 2, [1]), (5, 4, 1, [])])

    def test_the_first_broken_wish_is_gone_back_from(self):
        self.is_no(3, [[1], [-1, 2], [-2], [-2, -1], [-1]], [(0, 4, 1, [])])
        self.is_no(3, [[1], [2], [3], [-1, -2, -3], [-3, -2, -1]],
                   [(2, 3, 3, [-2, -1]), (1, 5, 2, [-1]), (0, 6, 1, [])])

    def test_all_wishes_made_stand_behind_the_others_and_not_the_last_alone(self):
        # Wish 4 was made on the way back to lamp 1 and is broken later.
        self.is_no(3, [[1, 2], [2, -1], [-2, 3], [-2, -3]],
                   [(2, 3, 3, [-2]), (1, 4, 2, [-1]), (0, 4, 2, [1]), (6, 5, 1, [])])

    def test_a_letter_twice_and_a_letter_beside_its_opposite(self):
        self.is_yes(2, [[1, -1], [-2, -2]], [True, False])
        self.is_yes(2, [[2, -2], [-1, 1, 2]], [True, True])
        self.is_no(1, [[1, 1], [1, -1], [-1, -1]], [(0, 2, 1, [])])

    def test_the_kinds(self):
        kind, setting = self.answer(solved, 3, [[-1]])
        self.assertEqual([type(setting)] + [type(value) for value in setting], [list, bool, bool, bool])
        told = self.answer(solved, 1, [[1], [-1]])
        self.assertEqual([type(told), type(told[1]), type(told[1][0]), type(told[1][0][3])],
                         [tuple, list, tuple, list])

    def test_many_lamps(self):
        self.is_yes(1000, [], [True] * 1000)
        self.is_yes(1050, [[-lamp] for lamp in range(1, 1051)], [False] * 1050)
        chain = [[-lamp, lamp + 1] for lamp in range(1, 1000)]
        self.is_yes(1000, chain, [True] * 1000)
        self.is_yes(1000, chain + [[-1000]], [False] * 1000)
        kind, steps = self.answer(solved, 1000, chain + [[1, 1000], [-1000, -1], [1, -1000]])
        self.assertEqual(kind, "no")
        self.assertIs(plainly_shows(chain + [[1, 1000], [-1000, -1], [1, -1000]], steps), True)

    def test_guesses_that_do_not_matter_are_not_tried_both_ways(self):
        kind, steps = self.answer(solved, 1000, CONTRARY)
        self.assertEqual((kind, steps), ("no", [(2, 3, 1000, [-999]), (0, 1, 1000, [999]), (5, 4, 999, [])]))

    def test_many_wishes(self):
        source = Random(3)
        wishes = [[lamp * source.choice((1, -1)) for lamp in source.sample(range(1, 1001), 3)]
                  for number in range(2500)]
        kind, setting = self.answer(solved, 1000, wishes)
        self.assertEqual(kind, "yes")
        self.assertTrue(all(plainly_met(wish, setting) for wish in wishes))

    def test_more_guests_than_rooms(self):
        for guests in (2, 3, 4):
            count, wishes = crowded(guests, guests - 1)
            told = self.answer(solved, count, wishes)
            self.assertEqual(told, plainly_solved(count, wishes)[0])
            self.assertEqual(told[0], "no")
            self.assertIs(plainly_shows(wishes, told[1]), True)
        count, wishes = crowded(6, 5)
        kind, steps = self.answer(solved, count, wishes)
        self.assertEqual((kind, plainly_shows(wishes, steps)), ("no", True))

    def test_drawn_halls_go_as_point_14_goes(self):
        for count, wishes in drawn_halls(51, 1500, 6) + drawn_halls(52, 40, 12):
            self.assertEqual(self.answer(solved, count, wishes), plainly_solved(count, wishes)[0])

    def test_drawn_halls_by_trying_all_settings(self):
        kinds = {"yes": 0, "no": 0}
        for count, wishes in drawn_halls(53, 1500, 7):
            kind, told = self.answer(solved, count, wishes)
            good = plain_settings(count, wishes)
            kinds[kind] += 1
            if kind == "yes":
                self.assertIn(told, good)
            else:
                self.assertEqual(good, [])
                self.assertIs(shows(wishes, told), True)
                self.assertIs(plainly_shows(wishes, told), True)
        self.assertGreater(min(kinds.values()), 200)


class AllSettings(PureCase):
    def test_no_lamps(self):
        self.assertEqual(self.answer(all_settings, 0, []), [[]])
        self.assertEqual(self.answer(all_settings, 0, [[]]), [])

    def test_no_wishes_and_the_order(self):
        self.assertEqual(self.answer(all_settings, 1, []), [[True], [False]])
        self.assertEqual(self.answer(all_settings, 2, []),
                         [[True, True], [True, False], [False, True], [False, False]])
        for count in (3, 9):
            self.assertEqual(self.answer(all_settings, count, []), plain_settings(count, []))

    def test_the_settings_that_meet_all(self):
        self.assertEqual(self.answer(all_settings, 2, [[1, 2]]), [[True, True], [True, False], [False, True]])
        self.assertEqual(self.answer(all_settings, 3, [[1, 2], [-3]]),
                         [[True, True, False], [True, False, False], [False, True, False]])
        self.assertEqual(self.answer(all_settings, 2, [[-1, 2], [1, -2]]), [[True, True], [False, False]])

    def test_the_first_lamp_that_differs_tells_the_order_and_no_later_one(self):
        self.assertEqual(self.answer(all_settings, 3, [[-1, -2], [-1, -3], [1, 2], [1, 3]]),
                         [[True, False, False], [False, True, True]])

    def test_none(self):
        self.assertEqual(self.answer(all_settings, 1, [[1], [-1]]), [])
        self.assertEqual(self.answer(all_settings, 3, [[1], []]), [])

    def test_one(self):
        self.assertEqual(self.answer(all_settings, 3, [[-1], [2], [-3]]), [[False, True, False]])

    def test_a_letter_twice_and_a_letter_beside_its_opposite(self):
        self.assertEqual(self.answer(all_settings, 2, [[1, -1], [-2, -2]]), [[True, False], [False, False]])

    def test_the_settings_do_not_hang_together(self):
        told = all_settings(2, [])
        self.assertEqual(len({id(setting) for setting in told}), 4)

    def test_many_lamps_with_few_settings(self):
        self.assertEqual(self.answer(all_settings, 1000, CONTRARY), [])
        single = [[lamp if lamp % 3 else -lamp] for lamp in range(1, 1001) if lamp not in (500, 700)]
        base = [lamp % 3 != 0 for lamp in range(1, 1001)]
        expected = []
        for first, second in ((True, True), (True, False), (False, True), (False, False)):
            setting = list(base)
            setting[499], setting[699] = first, second
            expected.append(setting)
        self.assertEqual(self.answer(all_settings, 1000, single), expected)
        chain = [[-lamp, lamp + 1] for lamp in range(1, 100)]
        self.assertEqual(self.answer(all_settings, 100, chain),
                         [[False] * dark + [True] * (100 - dark) for dark in range(101)])

    def test_guests_and_rooms(self):
        count, wishes = crowded(4, 4)
        told = self.answer(all_settings, count, wishes)
        self.assertEqual(told, plain_settings(count, wishes))
        self.assertEqual(len(told), 24)
        self.assertEqual(self.answer(all_settings, *crowded(5, 4)), [])
        self.assertEqual(len(self.answer(all_settings, *crowded(5, 5))), 120)

    def test_drawn_halls_by_trying_all_settings(self):
        for count, wishes in drawn_halls(61, 1500, 7) + drawn_halls(62, 60, 10):
            self.assertEqual(self.answer(all_settings, count, wishes), plain_settings(count, wishes))


class Follows(PureCase):
    def test_a_given_wish_follows(self):
        self.assertEqual(self.answer(follows, 1, [[1]], [1]), ("yes", [(0, 1, 1, [])]))
        self.assertEqual(self.answer(follows, 2, [[1, 2]], [1, 2]), ("yes", [(0, 2, 2, [1]), (3, 1, 1, [])]))

    def test_a_wish_from_several(self):
        told = self.answer(follows, 3, [[-1, 2], [-2, 3]], [-1, 3])
        self.assertEqual(told, ("yes", [(1, 3, 3, [-2]), (0, 4, 2, [-1]), (2, 5, 1, [])]))

    def test_the_opposites_stand_behind_in_the_order_of_the_letters(self):
        self.assertEqual(self.answer(follows, 2, [[2, 1]], [2, 1]), ("yes", [(0, 2, 1, [2]), (3, 1, 2, [])]))
        self.assertEqual(self.answer(follows, 2, [[-1]], [2, -1]), ("yes", [(2, 0, 1, [])]))
        self.assertEqual(self.answer(follows, 2, [[-1]], [-1, 2]), ("yes", [(1, 0, 1, [])]))

    def test_a_wish_that_does_not_follow(self):
        self.assertEqual(self.answer(follows, 2, [[1, 2]], [1]), ("no", [False, True]))
        self.assertEqual(self.answer(follows, 3, [[-1, 2]], [-3, 2]), ("no", [False, False, True]))
        self.assertEqual(self.answer(follows, 2, [], [1]), ("no", [False, True]))

    def test_a_letter_twice_has_its_opposite_twice(self):
        self.assertEqual(self.answer(follows, 2, [[2, 1]], [1, 1, 2]), ("yes", [(0, 3, 2, [1]), (4, 1, 1, [])]))
        self.assertEqual(self.answer(follows, 1, [], [1, 1]), ("no", [False]))

    def test_a_letter_beside_its_opposite_follows_from_anything(self):
        self.assertEqual(self.answer(follows, 1, [], [1, -1]), ("yes", [(1, 0, 1, [])]))
        self.assertEqual(self.answer(follows, 1, [], [-1, 1]), ("yes", [(0, 1, 1, [])]))
        self.assertEqual(self.answer(follows, 2, [[2]], [1, -1]), ("yes", [(2, 1, 1, [])]))

    def test_an_empty_wish_follows_where_no_setting_meets_all(self):
        self.assertEqual(self.answer(follows, 1, [[1], [-1]], []), ("yes", [(0, 1, 1, [])]))
        self.assertEqual(self.answer(follows, 1, [[-1]], []), ("no", [False]))
        self.assertEqual(self.answer(follows, 0, [], []), ("no", []))

    def test_all_follows_from_an_empty_wish(self):
        self.assertEqual(self.answer(follows, 0, [[]], []), ("yes", []))
        self.assertEqual(self.answer(follows, 2, [[1], []], [2]), ("yes", []))

    def test_drawn_halls_by_trying_all_settings(self):
        source = Random(71)
        kinds = {"yes": 0, "no": 0}
        for count, wishes in drawn_halls(71, 1500, 6):
            wish = [source.choice(letters_up_to(count)) for place in range(source.randrange(4))]
            behind = wishes + [[-letter] for letter in wish]
            against = [setting for setting in plain_settings(count, wishes) if not plainly_met(wish, setting)]
            kind, told = self.answer(follows, count, wishes, wish)
            kinds[kind] += 1
            if kind == "yes":
                self.assertEqual(against, [])
                self.assertIs(plainly_shows(behind, told), True)
                self.assertEqual(("no", told), plainly_solved(count, behind)[0])
            else:
                self.assertIn(told, against)
                self.assertEqual(("yes", told), plainly_solved(count, behind)[0])
        self.assertGreater(min(kinds.values()), 200)


class Sure(PureCase):
    def test_letters_that_are_forced(self):
        self.assertEqual(self.answer(sure, 3, [[1], [-1, -3]]), [1, -3])
        self.assertEqual(self.answer(sure, 3, [[-3], [3, 2], [-2, -1]]), [-1, 2, -3])

    def test_letters_that_no_wish_forces_without_a_guess(self):
        self.assertEqual(self.answer(sure, 2, [[1, 2], [1, -2]]), [1])
        self.assertEqual(self.answer(sure, 3, [[-3, 2], [-3, -2]]), [-3])

    def test_none_is_sure(self):
        self.assertEqual(self.answer(sure, 2, []), [])
        self.assertEqual(self.answer(sure, 2, [[1, 2], [-1, -2]]), [])
        self.assertEqual(self.answer(sure, 2, [[1, -1]]), [])

    def test_no_lamps(self):
        self.assertEqual(self.answer(sure, 0, []), [])

    def test_the_order_of_the_lamps_and_not_of_the_letters(self):
        self.assertEqual(self.answer(sure, 4, [[-4], [3], [-2], [1]]), [1, -2, 3, -4])

    def test_lamps_that_no_wish_speaks_of_are_not_sure(self):
        self.assertEqual(self.answer(sure, 5, [[3]]), [3])

    def test_a_letter_twice(self):
        self.assertEqual(self.answer(sure, 2, [[-2, -2]]), [-2])

    def test_refused_where_no_setting_meets_all(self):
        for count, wishes in ((0, [[]]), (1, [[1], [-1]]), (3, [[1], []]), (1000, CONTRARY), crowded(4, 3)):
            self.refused(NoSetting, sure, count, wishes)

    def test_the_refusal_is_taken_by_its_bases(self):
        for error in (LampError, ValueError):
            refusal = self.refused(error, sure, 1, [[1], [-1]])
            self.assertIsInstance(refusal, NoSetting)
            self.assertNotIsInstance(refusal, NoMerge)

    def test_many_lamps(self):
        self.assertEqual(self.answer(sure, 1000, []), [])
        chain = [[-lamp, lamp + 1] for lamp in range(1, 1000)]
        self.assertEqual(self.answer(sure, 1000, chain), [])
        self.assertEqual(self.answer(sure, 1000, chain + [[500]]), list(range(500, 1001)))
        self.assertEqual(self.answer(sure, 1000, chain + [[-500]]), [-lamp for lamp in range(1, 501)])
        pairs = [[sign * lamp, other] for lamp in range(1, 901, 2) for sign in [1 if lamp % 4 == 1 else -1]
                 for other in (lamp + 1, -lamp - 1)]
        self.assertEqual(self.answer(sure, 900, pairs), [lamp if lamp % 4 == 1 else -lamp for lamp in range(1, 901, 2)])

    def test_drawn_halls_by_trying_all_settings(self):
        several = 0
        for count, wishes in drawn_halls(81, 1500, 7):
            good = plain_settings(count, wishes)
            if good:
                both = [(lamp, -lamp) for lamp in range(1, count + 1)]
                expected = [letter for pair in both for letter in pair
                            if all(plainly_met([letter], setting) for setting in good)]
                self.assertEqual(self.answer(sure, count, wishes), expected)
                several += len(good) > 1 and len(expected) > 0
            else:
                self.refused(NoSetting, sure, count, wishes)
        self.assertGreater(several, 200)
