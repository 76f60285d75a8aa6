"""What the tests share: a case that sees that nothing handed in is changed, the slow and plain checks, and drawn halls.

The plain checks follow the document's points word by word and use nothing of the program.
"""

import unittest
from itertools import product
from random import Random


def lists_in(value):
    if not isinstance(value, (list, tuple)):
        return []
    found = [value] if isinstance(value, list) else []
    for member in value:
        found.extend(lists_in(member))
    return found


class PureCase(unittest.TestCase):
    def answer(self, function, *arguments):
        before = repr(arguments)
        told = function(*arguments)
        shown = repr(told)
        self.assertEqual(repr(arguments), before, "what was handed in was changed")
        for held in lists_in(told):
            held.append("spoiled")
        self.assertEqual(repr(arguments), before, "the answer hangs on what was handed in")
        self.assertEqual(repr(function(*arguments)), shown, "asked again, it answers otherwise")
        for held in lists_in(told):
            held.pop()
        return told

    def refused(self, error, function, *arguments):
        before = repr(arguments)
        with self.assertRaises(error) as caught:
            function(*arguments)
        self.assertEqual(repr(arguments), before, "what was handed in was changed")
        return caught.exception


def settings(count):
    return [list(values) for values in product((True, False), repeat=count)]


def plainly_met(wish, setting):
    return any((letter > 0) == setting[abs(letter) - 1] for letter in wish)


def plain_settings(count, wishes):
    return [setting for setting in settings(count) if all(plainly_met(wish, setting) for wish in wishes)]


def plainly_open(wish, letters):
    """Point 6: None where the wish is kept."""
    if any(letter in letters for letter in wish):
        return None
    free = [letter for letter in wish if -letter not in letters]
    return sorted(set(free), key=free.index)


def plainly_broken(wishes, trail):
    letters = [letter for letter, why in trail]
    return [number for number, wish in enumerate(wishes) if plainly_open(wish, letters) == []]


def plainly_forced(wishes, trail):
    """Point 7, each time from the beginning."""
    trail = list(trail)
    while not plainly_broken(wishes, trail):
        letters = [letter for letter, why in trail]
        states = [plainly_open(wish, letters) for wish in wishes]
        single = [number for number, state in enumerate(states) if state is not None and len(state) == 1]
        if not single:
            break
        trail.append((states[single[0]][0], single[0]))
    return trail


def plainly_gone_back(wishes, trail, number):
    """Points 12 and 13."""
    wishes = list(wishes)
    trail = list(trail)
    steps = []
    while trail:
        letter, why = trail.pop()
        if -letter not in wishes[number]:
            continue
        if why is None:
            return trail + [(-letter, number)], steps
        lamp = abs(letter)
        one, two = (number, why) if lamp in wishes[number] else (why, number)
        made = sorted((set(wishes[one]) - {lamp}) | (set(wishes[two]) - {-lamp}))
        steps.append((one, two, lamp, made))
        wishes.append(made)
        number = len(wishes) - 1
    return trail, steps


def plainly_solved(count, wishes):
    """Point 14: the answer, and all that was gone back from on the way."""
    wishes = list(wishes)
    steps = []
    falls = []
    trail = plainly_forced(wishes, [])
    while True:
        numbers = plainly_broken(wishes, trail)
        letters = [letter for letter, why in trail]
        free = [lamp for lamp in range(1, count + 1) if lamp not in letters and -lamp not in letters]
        if numbers:
            falls.append((list(wishes), trail, numbers[0]))
            trail, made = plainly_gone_back(wishes, trail, numbers[0])
            steps += made
            wishes += [step[3] for step in made]
            if not trail:
                return ("no", steps), falls
        elif free:
            trail = trail + [(free[0], None)]
        else:
            return ("yes", [lamp in letters for lamp in range(1, count + 1)]), falls
        trail = plainly_forced(wishes, trail)


def plainly_right(known, step):
    """Point 9."""
    one, two, lamp, wish = step
    if one not in range(len(known)) or two not in range(len(known)) or lamp < 1:
        return False
    if lamp not in known[one] or -lamp not in known[two]:
        return False
    return wish == sorted((set(known[one]) - {lamp}) | (set(known[two]) - {-lamp}))


def plainly_shows(wishes, steps):
    """Point 10."""
    known = list(wishes)
    for step in steps:
        if not plainly_right(known, step):
            return False
        known.append(step[3])
    return known[-1] == [] if steps else [] in wishes


def letters_up_to(count):
    return [letter for lamp in range(1, count + 1) for letter in (lamp, -lamp)]


def drawn_hall(source, most):
    """A count and wishes about as many lamps, so drawn that all kinds of answers come often."""
    count = source.randrange(1, most + 1)
    letters = letters_up_to(count)
    least, longest = source.choice(((0, 3), (1, 3), (2, 3), (2, 3), (3, 3)))
    size = source.randrange(count * source.choice((2, 4, 6)) + 1)
    wishes = [[source.choice(letters) for place in range(source.randrange(least, longest + 1))]
              for number in range(size)]
    return count, wishes


def drawn_halls(seed, turns, most):
    source = Random(seed)
    return [drawn_hall(source, most) for turn in range(turns)]


def crowded(guests, rooms):
    """A count and wishes: each guest has a room, no room has two guests."""
    lamps = [[guest * rooms + room + 1 for room in range(rooms)] for guest in range(guests)]
    apart = [[-lamps[one][room], -lamps[two][room]]
             for room in range(rooms) for one in range(guests) for two in range(one + 1, guests)]
    return guests * rooms, lamps + apart
