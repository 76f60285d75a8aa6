"""Trails: the wish that one breaks, how one goes on without a guess, and the lamp to guess on (points 5 to 8)."""

from lampwish.wishes import each_once, left_open, marked


def broken(wishes, trail):
    taken = marked(letters_of(trail))
    for number, wish in enumerate(wishes):
        if left_open(wish, taken) == []:
            return number
    return None


def forced(wishes, trail):
    longer = list(trail)
    taken = marked(letters_of(trail))
    counts = [open_count(wish, taken) for wish in wishes]
    places = places_of(wishes)
    while 0 not in counts and 1 in counts:
        number = counts.index(1)
        letter = left_open(wishes[number], taken)[0]
        longer.append((letter, number))
        taken[letter] = True
        take_into(counts, places, letter)
    return longer


def first_free(count, trail):
    lamps = marked([abs(letter) for letter in letters_of(trail)])
    for lamp in range(1, count + 1):
        if lamp not in lamps:
            return lamp
    return None


def letters_of(trail):
    return [pair[0] for pair in trail]


# None stands for a kept wish, so that 0 means broken and 1 means forcing.
def open_count(wish, taken):
    still = left_open(wish, taken)
    return None if still is None else len(still)


def places_of(wishes):
    places = {}
    for number, wish in enumerate(wishes):
        for letter in each_once(wish):
            places.setdefault(letter, []).append(number)
    return places


# Only the wishes of the letter's lamp are counted anew, so that a long trail over many wishes stays quick.
# The kept ones come first: a wish with the letter and its opposite is kept, not one letter shorter.
def take_into(counts, places, letter):
    for number in places.get(letter, []):
        counts[number] = None
    for number in places.get(-letter, []):
        if counts[number] is not None:
            counts[number] -= 1
