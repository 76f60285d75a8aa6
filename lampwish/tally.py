"""A trail that grows and shrinks, with a tally of every wish, so that a letter costs only the wishes that have it."""

from lampwish.wishes import each_once, left_open


class Tally:
    # For each wish: so counts its letters that the trail has, left those whose opposite the trail does not have.
    # Where none is so, left is the number of its open letters.
    def __init__(self, wishes):
        self.wishes = []
        self.trail = []
        self.taken = {}
        self.places = {}
        self.so = []
        self.left = []
        self.failing = {}
        self.forcing = {}
        for wish in wishes:
            self.put_wish(wish)

    def put_wish(self, wish):
        number = len(self.wishes)
        letters = each_once(wish)
        self.wishes.append(wish)
        self.so.append(len([letter for letter in letters if letter in self.taken]))
        self.left.append(len([letter for letter in letters if -letter not in self.taken]))
        for letter in letters:
            self.places.setdefault(letter, []).append(number)
        self.sort_in(number)

    def put(self, letter, why):
        self.trail.append((letter, why))
        self.taken[letter] = True
        self.count_letter(letter, 1)

    def take_off(self):
        pair = self.trail.pop()
        self.taken.pop(pair[0])
        self.count_letter(pair[0], -1)
        return pair

    # A wish with more than two letters left neither fails nor forces, nor did it one letter ago.
    def count_letter(self, letter, change):
        for number in self.places.get(letter, []):
            self.so[number] += change
            if self.left[number] <= 2:
                self.sort_in(number)
        for number in self.places.get(-letter, []):
            self.left[number] -= change
            if self.left[number] <= 2:
                self.sort_in(number)

    def sort_in(self, number):
        self.failing.pop(number, None)
        self.forcing.pop(number, None)
        if self.so[number] == 0:
            if self.left[number] == 0:
                self.failing[number] = True
            elif self.left[number] == 1:
                self.forcing[number] = True

    def first_broken(self):
        return min(self.failing, default=None)

    def go_on(self):
        while self.forcing and not self.failing:
            number = min(self.forcing)
            self.put(left_open(self.wishes[number], self.taken)[0], number)
