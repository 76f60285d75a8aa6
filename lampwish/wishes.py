"""Wishes: whether a setting meets one, what comes of two merged, what letters leave open (points 2 to 6)."""

from lampwish.errors import NoMerge


def met(wish, setting):
    for letter in wish:
        if setting[abs(letter) - 1] == (letter > 0):
            return True
    return False


def merged(one, two, lamp):
    if lamp not in one:
        raise NoMerge(f"the first wish does not have {lamp}")
    if -lamp not in two:
        raise NoMerge(f"the second wish does not have -{lamp}")
    rest_of_one = [letter for letter in one if letter != lamp]
    rest_of_two = [letter for letter in two if letter != -lamp]
    return sorted(set(rest_of_one + rest_of_two))


def still_open(wish, letters):
    return left_open(wish, marked(letters))


# Apart from still_open, so that one dict of the letters serves a walk over many wishes.
def left_open(wish, taken):
    for letter in wish:
        if letter in taken:
            return None
    return [letter for letter in each_once(wish) if -letter not in taken]


def each_once(letters):
    return list(marked(letters))


def marked(letters):
    marks = {}
    for letter in letters:
        marks[letter] = True
    return marks
