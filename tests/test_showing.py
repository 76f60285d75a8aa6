"""Points 1, 3, 4 and 9 to 11: shows and trimmed."""

from random import Random

from lampwish.showing import shows, trimmed
from lampwish.solving import solved
from tests.helper import (PureCase, crowded, drawn_halls, letters_up_to, plain_settings, plainly_right,
                          plainly_shows)

WISHES = [[1, 2], [-1, 2], [-2, 3], [-3]]
STEPS = [(0, 1, 1, [2]), (4, 2, 2, [3]), (5, 3, 3, [])]


def with_step(place, step):
    return STEPS[:place] + [step] + STEPS[place + 1:]


class Shows(PureCase):
    def is_shown(self, wishes, steps):
        self.assertIs(self.answer(shows, wishes, steps), True)

    def is_not_shown(self, wishes, steps):
        self.assertIs(self.answer(shows, wishes, steps), False)

    def test_right_steps_with_an_empty_wish_at_the_end(self):
        self.is_shown(WISHES, STEPS)
        self.is_shown([[1], [-1]], [(0, 1, 1, [])])
        self.is_shown([[-7], [7]], [(1, 0, 7, [])])

    def test_the_last_wish_made_is_not_empty(self):
        self.is_not_shown(WISHES, STEPS[:2])
        self.is_not_shown(WISHES, STEPS[:1])

    def test_an_empty_wish_made_earlier_is_not_enough(self):
        wishes = [[1], [-1], [2], [-2, 3]]
        self.is_not_shown(wishes, [(0, 1, 1, []), (2, 3, 2, [3])])
        self.is_shown(wishes, [(2, 3, 2, [3]), (0, 1, 1, [])])

    def test_no_step(self):
        self.is_shown([[]], [])
        self.is_shown([[1], [], [2]], [])
        self.is_shown([[1], [2], []], [])
        self.is_not_shown([[1], [-1]], [])
        self.is_not_shown([[1, -1]], [])
        self.is_not_shown([], [])

    def test_an_empty_given_wish_is_not_enough_behind_a_step(self):
        self.is_not_shown([[], [1, 2], [-1]], [(1, 2, 1, [2])])
        self.is_shown([[], [1], [-1]], [(1, 2, 1, [])])

    def test_an_empty_given_wish_does_not_mend_a_wrong_step(self):
        self.is_not_shown([[], [1], [2]], [(1, 2, 1, [])])

    def test_steps_without_wishes(self):
        self.is_not_shown([], [(0, 0, 1, [])])
        self.is_not_shown([], [(-1, -1, 1, [])])
        self.is_not_shown([], [(0, 1, 1, []), (0, 1, 1, [])])

    def test_steps_that_nothing_needs_must_be_right_too(self):
        self.is_shown([[1], [-1], [2, 3], [-2]], [(2, 3, 2, [3]), (0, 1, 1, [])])
        self.is_not_shown([[1], [-1], [2, 3], [-2]], [(2, 3, 2, [2]), (0, 1, 1, [])])

    def test_numbers_below_nought(self):
        # Each is the very wish if counted from the end.
        self.is_not_shown(WISHES, with_step(0, (-4, 1, 1, [2])))
        self.is_not_shown(WISHES, with_step(0, (0, -3, 1, [2])))
        self.is_not_shown(WISHES, with_step(1, (-1, 2, 2, [3])))
        self.is_not_shown(WISHES, with_step(2, (5, -3, 3, [])))
        self.is_not_shown([[1], [-1]], [(-2, -1, 1, [])])
        self.is_not_shown(WISHES, with_step(0, (-10 ** 30, 1, 1, [2])))

    def test_its_own_number(self):
        self.is_not_shown([[1], [-1]], [(2, 1, 1, [])])
        self.is_not_shown([[1], [-1]], [(0, 2, 1, [])])
        self.is_not_shown([[1], [-1]], [(2, 2, 1, [])])
        self.is_not_shown(WISHES, with_step(1, (5, 2, 2, [3])))
        # What it tells is what would come of itself merged with itself.
        self.is_not_shown([[1]], [(1, 1, 1, [-1, 1])])

    def test_the_number_of_a_later_step(self):
        self.is_not_shown([[1, 2], [-1], [-2]], [(4, 2, 2, []), (0, 1, 1, [2])])
        self.is_not_shown([[1, 2], [-1], [-2]], [(4, 2, 2, []), (0, 1, 1, [2]), (4, 2, 2, [])])
        self.is_shown([[1, 2], [-1], [-2]], [(0, 1, 1, [2]), (3, 2, 2, [])])

    def test_numbers_far_too_great(self):
        for number in (6, 7, 1000, 10 ** 30):
            self.is_not_shown(WISHES, with_step(0, (number, 1, 1, [2])))
            self.is_not_shown(WISHES, with_step(1, (4, number, 2, [3])))

    def test_a_lamp_below_one(self):
        self.is_not_shown([[-1], [1]], [(0, 1, -1, [])])
        self.is_not_shown(WISHES, with_step(0, (1, 0, -1, [2])))
        self.is_not_shown(WISHES, with_step(1, (4, 2, 0, [3])))
        self.is_not_shown(WISHES, with_step(1, (4, 2, -2, [3])))
        self.is_not_shown(WISHES, with_step(2, (5, 3, -10 ** 30, [])))

    def test_a_lamp_that_a_wish_lacks(self):
        self.is_not_shown([[2], [-1]], [(0, 1, 1, [])])
        self.is_not_shown([[1], [2]], [(0, 1, 1, [])])
        self.is_not_shown([[1], [-1]], [(0, 1, 2, [])])
        self.is_not_shown(WISHES, with_step(1, (4, 2, 10 ** 30, [3])))

    def test_an_empty_wish_can_not_be_merged(self):
        self.is_not_shown([[1], [-1]], [(0, 1, 1, []), (2, 1, 1, [])])
        self.is_not_shown([[1], [-1]], [(0, 1, 1, []), (0, 2, 1, [])])
        self.is_not_shown([[], [-1]], [(0, 1, 1, [])])

    def test_the_two_turned_round(self):
        self.is_not_shown([[1], [-1]], [(1, 0, 1, [])])
        self.is_not_shown(WISHES, with_step(1, (2, 4, 2, [3])))

    def test_a_wish_that_does_not_come_of_it(self):
        for wish in ([], [3], [2, 3], [2, 2], [-2], [1, 2], [-1, 2]):
            self.is_not_shown(WISHES, with_step(0, (0, 1, 1, wish)))
        self.is_not_shown(WISHES, with_step(2, (5, 3, 3, [3])))

    def test_the_very_order(self):
        wishes = [[3, 1], [-1, -2], [2], [-3]]
        behind = [(2, 4, 2, [3]), (5, 3, 3, [])]
        self.is_shown(wishes, [(0, 1, 1, [-2, 3])] + behind)
        self.is_not_shown(wishes, [(0, 1, 1, [3, -2])] + behind)

    def test_one_wrong_step_at_each_place(self):
        for place, (one, two, lamp, wish) in enumerate(STEPS):
            for wrong in ((-1, two, lamp, wish), (one, -1, lamp, wish), (one, two, 0, wish),
                          (one, two, lamp, wish + [9]), (two, one, lamp, wish), (one, one, lamp, wish)):
                self.is_not_shown(WISHES, with_step(place, wrong))

    def test_one_wish_merged_with_itself(self):
        self.is_shown([[1, -1], [1], [-1]], [(0, 0, 1, [-1, 1]), (1, 3, 1, [1]), (4, 2, 1, [])])
        self.is_not_shown([[1, -1], [1], [-1]], [(0, 0, 1, []), (1, 2, 1, [])])

    def test_letters_twice_and_opposites_that_stay(self):
        self.is_shown([[1, 1, 2], [-1, 2, -1], [-2, -2]], [(0, 1, 1, [2]), (3, 2, 2, [])])
        self.is_not_shown([[1, -1], [-1]], [(0, 1, 1, [])])
        self.is_shown([[1, -1], [-1], [1]], [(0, 1, 1, [-1]), (2, 3, 1, [])])

    def test_the_wish_told_is_compared_and_not_what_it_looks_like(self):
        self.is_not_shown([[1], [-1, 2, -2]], [(0, 1, 1, [])])
        self.is_not_shown([[1, 2], [-1, -2]], [(0, 1, 1, [])])

    def test_a_long_row(self):
        wishes = [[1]] + [[-lamp, lamp + 1] for lamp in range(1, 1500)] + [[-1500]]
        steps = [(0, 1, 1, [2])] + [(1500 + lamp - 1, lamp, lamp, [lamp + 1]) for lamp in range(2, 1500)]
        steps.append((1500 + 1499, 1500, 1500, []))
        self.is_shown(wishes, steps)
        self.is_not_shown(wishes, steps[:-1])
        self.is_not_shown(wishes, steps[1:])

    def test_all_single_steps_over_a_few_wishes(self):
        wishes = [[1], [-1], [1, -1], [-1, 2], []]
        for one in range(-6, 7):
            for two in range(-6, 7):
                for lamp in range(-2, 4):
                    for wish in ([], [1], [-1], [2], [-1, 1], [-1, 2], [1, -1]):
                        steps = [(one, two, lamp, wish)]
                        self.assertIs(shows(wishes, steps), plainly_right(wishes, steps[0]) and wish == [])

    def test_steps_of_solved_spoiled_in_one_place(self):
        source = Random(21)
        for count, wishes in drawn_halls(21, 400, 5):
            kind, steps = solved(count, wishes)
            if kind == "no" and steps:
                place = source.randrange(len(steps))
                step = list(steps[place])
                field = source.randrange(4)
                step[field] = source.choice(([], [1], [-1, 2])) if field == 3 else source.randrange(-3, 20)
                spoiled = steps[:place] + [tuple(step)] + steps[place + 1:]
                self.assertIs(self.answer(shows, wishes, spoiled), plainly_shows(wishes, spoiled))

    def test_what_is_shown_is_so(self):
        source = Random(5)
        shown = 0
        for turn in range(2000):
            wishes = [[source.choice(letters_up_to(2)) for place in range(source.randrange(1, 3))]
                      for number in range(source.randrange(2, 5))]
            steps = drawn_steps(source, wishes)
            told = self.answer(shows, wishes, steps)
            self.assertIs(told, plainly_shows(wishes, steps))
            if told:
                shown += 1
                self.assertEqual(plain_settings(2, wishes), [])
        self.assertGreater(shown, 100)


def drawn_steps(source, wishes):
    """Some right steps, of which now and then one is spoiled a little."""
    known = list(wishes)
    steps = []
    for turn in range(30):
        one, two = source.randrange(len(known)), source.randrange(len(known))
        lamp = source.randrange(1, 3)
        if lamp in known[one] and -lamp in known[two] and len(steps) < 3:
            made = sorted((set(known[one]) - {lamp}) | (set(known[two]) - {-lamp}))
            if source.randrange(8) == 0:
                made = made[1:]
            if source.randrange(8) == 0:
                one -= len(known)
            steps.append((one, two, lamp, made))
            known.append(made)
            if made == []:
                break
    return steps


def plainly_trimmed(wishes, steps):
    given = len(wishes)
    needed = {given + len(steps) - 1}
    grown = True
    while grown:
        used = {number for place, step in enumerate(steps) if given + place in needed for number in step[:2]}
        grown = not used <= needed
        needed |= used
    stay = [given + place for place in range(len(steps)) if given + place in needed]
    names = list(range(given)) + stay
    return [(names.index(one), names.index(two), lamp, wish)
            for one, two, lamp, wish in (steps[number - given] for number in stay)]


class Trimmed(PureCase):
    def test_no_step(self):
        self.assertEqual(self.answer(trimmed, WISHES, []), [])
        self.assertEqual(self.answer(trimmed, [], []), [])
        self.assertEqual(self.answer(trimmed, [[]], []), [])

    def test_a_row_of_which_all_are_needed(self):
        self.assertEqual(self.answer(trimmed, WISHES, STEPS), STEPS)
        self.assertEqual(self.answer(trimmed, [[1], [-1]], [(0, 1, 1, [])]), [(0, 1, 1, [])])

    def test_a_step_in_front_that_nothing_needs(self):
        wishes = [[1], [-1, 2], [-2], [3, 4], [-3]]
        steps = [(3, 4, 3, [4]), (0, 1, 1, [2]), (6, 2, 2, [])]
        self.assertEqual(self.answer(trimmed, wishes, steps), [(0, 1, 1, [2]), (5, 2, 2, [])])

    def test_steps_between_that_nothing_needs(self):
        wishes = [[1], [-1, 2], [-2, 3], [-3]]
        steps = [(0, 1, 1, [2]), (1, 2, 2, [-1, 3]), (4, 2, 2, [3]), (0, 5, 1, [3]), (6, 3, 3, [])]
        self.assertEqual(self.answer(trimmed, wishes, steps), [(0, 1, 1, [2]), (4, 2, 2, [3]), (5, 3, 3, [])])

    def test_a_step_that_only_an_unneeded_one_merges_goes_too(self):
        wishes = [[1], [-1, 2], [-2, 3], [-3], [-1]]
        steps = [(0, 1, 1, [2]), (5, 2, 2, [3]), (6, 3, 3, []), (0, 4, 1, [])]
        self.assertEqual(self.answer(trimmed, wishes, steps), [(0, 4, 1, [])])

    def test_a_row_that_ends_in_no_empty_wish(self):
        wishes = [[1, 2], [-1, 3], [-2]]
        steps = [(0, 1, 1, [2, 3]), (0, 2, 2, [1])]
        self.assertEqual(self.answer(trimmed, wishes, steps), [(0, 2, 2, [1])])
        self.assertEqual(self.answer(trimmed, wishes, steps[:1]), steps[:1])

    def test_an_empty_wish_made_earlier_is_not_the_last(self):
        wishes = [[1], [-1], [2, 3], [-2]]
        self.assertEqual(self.answer(trimmed, wishes, [(0, 1, 1, []), (2, 3, 2, [3])]), [(2, 3, 2, [3])])

    def test_a_step_needed_twice_stays_once(self):
        wishes = [[1, 2], [-1, 2], [-2, 3], [-2, -3]]
        steps = [(2, 3, 3, [-2]), (0, 1, 1, [2]), (5, 4, 2, [])]
        self.assertEqual(self.answer(trimmed, wishes, steps), steps)
        steps = [(0, 1, 1, [2]), (4, 2, 2, [3]), (4, 3, 2, [-3]), (5, 6, 3, [])]
        self.assertEqual(self.answer(trimmed, wishes, steps), steps)

    def test_of_two_same_steps_the_one_that_is_merged_stays(self):
        wishes = [[1], [-1, 2], [-2]]
        steps = [(0, 1, 1, [2]), (0, 1, 1, [2]), (3, 2, 2, [])]
        self.assertEqual(self.answer(trimmed, wishes, steps), [(0, 1, 1, [2]), (3, 2, 2, [])])
        steps = [(0, 1, 1, [2]), (0, 1, 1, [2]), (4, 2, 2, [])]
        self.assertEqual(self.answer(trimmed, wishes, steps), [(0, 1, 1, [2]), (3, 2, 2, [])])

    def test_a_step_that_merges_one_wish_with_itself(self):
        wishes = [[1, -1], [2], [-2]]
        steps = [(1, 2, 2, []), (0, 0, 1, [-1, 1]), (4, 4, 1, [-1, 1])]
        self.assertEqual(self.answer(trimmed, wishes, steps), [(0, 0, 1, [-1, 1]), (3, 3, 1, [-1, 1])])

    def test_the_last_of_the_given_wishes_keeps_its_number(self):
        self.assertEqual(self.answer(trimmed, [[2], [-2], [1], [-1]], [(0, 1, 2, []), (2, 3, 1, [])]), [(2, 3, 1, [])])

    def test_the_kinds(self):
        told = self.answer(trimmed, WISHES, STEPS)
        self.assertIs(type(told), list)
        for step in told:
            self.assertIs(type(step), tuple)
            self.assertIs(type(step[3]), list)

    def test_a_long_row(self):
        wishes = [[1]] + [[-lamp, lamp + 1] for lamp in range(1, 1500)] + [[-1500], [-1]]
        steps = [(0, 1, 1, [2])] + [(1500 + lamp, lamp, lamp, [lamp + 1]) for lamp in range(2, 1500)]
        self.assertEqual(self.answer(trimmed, wishes, steps), steps)
        self.assertEqual(self.answer(trimmed, wishes, steps + [(0, 1501, 1, [])]), [(0, 1501, 1, [])])

    def test_the_steps_of_solved(self):
        shorter = 0
        for count, wishes in drawn_halls(31, 600, 6) + [crowded(4, 3), crowded(5, 4), crowded(6, 5)]:
            kind, steps = solved(count, wishes)
            if kind == "no":
                told = self.answer(trimmed, wishes, steps)
                self.assertEqual(told, plainly_trimmed(wishes, steps))
                self.assertIs(shows(wishes, told), True)
                self.assertEqual(trimmed(wishes, told), told)
                shorter += len(told) < len(steps)
        self.assertGreaterEqual(shorter, 3)

    def test_rows_cut_off_anywhere(self):
        for count, wishes in drawn_halls(32, 300, 6) + [crowded(4, 3)]:
            kind, steps = solved(count, wishes)
            if kind == "no":
                for length in range(len(steps)):
                    cut = steps[:length]
                    self.assertEqual(self.answer(trimmed, wishes, cut), plainly_trimmed(wishes, cut))
