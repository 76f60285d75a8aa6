"""Trails: the wish that one breaks, how one goes on without a guess, and the lamp to guess on (points 5 to 8)."""

from lampwish.tally import Tally
from lampwish.wishes import left_open, marked


def broken(wishes, trail):
    taken = marked(letters_of(trail))
    for number, wish in enumerate(wishes):
        if left_open(wish, taken) == []:
            return number
    return None


def forced(wishes, trail):
    tally = Tally(wishes)
    for pair in trail:
        tally.put(pair[0], pair[1])
    tally.go_on()
    return tally.trail


def first_free(count, trail):
    return free_lamp(count, marked(letters_of(trail)))


# Apart from first_free, so that a search need not go through its whole trail for each guess.
def free_lamp(count, taken):
    for lamp in range(1, count + 1):
        if lamp not in taken and -lamp not in taken:
            return lamp
    return None


def letters_of(trail):
    return [pair[0] for pair in trail]
