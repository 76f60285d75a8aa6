"""Solving: going back, a setting or the steps that show there is none, and what settings share (points 12 to 18)."""

from lampwish.errors import NoSetting
from lampwish.forcing import free_lamp
from lampwish.tally import Tally
from lampwish.wishes import marked, merged


def gone_back(wishes, trail, number):
    shorter = list(trail)
    steps = []
    in_hand = number
    letters = marked(wishes[number])
    while shorter:
        pair = shorter.pop()
        if -pair[0] in letters:
            if pair[1] is None:
                shorter.append((-pair[0], in_hand))
                break
            steps.append(step_back(wishes, steps, in_hand, pair))
            in_hand = len(wishes) + len(steps) - 1
            letters = marked(steps[-1][3])
    return (shorter, steps)


# Of the two only the wish in hand can be one made on this way back, so the other is found among the wishes.
def step_back(wishes, steps, in_hand, pair):
    hand = steps[-1][3] if steps else wishes[in_hand]
    letter = pair[0]
    why = pair[1]
    if letter > 0:
        return (why, in_hand, letter, merged(wishes[why], hand, letter))
    return (in_hand, why, -letter, merged(hand, wishes[why], -letter))


def solved(count, wishes):
    tally = Tally(wishes)
    steps = search(count, tally, [])
    if tally.first_broken() is None:
        return ("yes", setting_of(count, tally))
    return ("no", steps)


# Point 14 from the tally's trail on: ends with all lamps set, or with an empty trail that breaks a wish.
# The letters of eager are guessed to be so ahead of the first free lamp, which sure makes use of.
def search(count, tally, eager):
    steps = []
    tally.go_on()
    while True:
        number = tally.first_broken()
        if number is not None:
            steps.extend(go_back(tally, number))
            if not tally.trail:
                return steps
        else:
            letter = next_guess(count, tally, eager)
            if letter is None:
                return steps
            tally.put(letter, None)
        tally.go_on()


def go_back(tally, number):
    behind = gone_back(tally.wishes, tally.trail, number)
    trail = behind[0]
    while tally.trail and len(tally.trail) >= len(trail):
        tally.take_off()
    for step in behind[1]:
        tally.put_wish(step[3])
    if trail:
        tally.put(trail[-1][0], trail[-1][1])
    return behind[1]


def next_guess(count, tally, eager):
    for letter in eager:
        if letter not in tally.taken and -letter not in tally.taken:
            return letter
    return free_lamp(count, tally.taken)


def setting_of(count, tally):
    return [lamp in tally.taken for lamp in range(1, count + 1)]


# A guess is put on the trail lit. Once all settings with it are told it stands there dark, still as a guess.
# So the settings come in their order, and no wish need be added for each one that is told.
def all_settings(count, wishes):
    tally = Tally(wishes)
    settings = []
    more = True
    while more:
        tally.go_on()
        number = tally.first_broken()
        lamp = free_lamp(count, tally.taken)
        if number is not None:
            go_back(tally, number)
            more = not is_spent(tally.trail) or turn_guess(tally)
        elif lamp is not None:
            tally.put(lamp, None)
        else:
            settings.append(setting_of(count, tally))
            more = turn_guess(tally)
    return settings


# Behind going back: a last letter that is lit again was a dark guess, and all settings with it lit are told.
def is_spent(trail):
    return not trail or trail[-1][0] > 0


def turn_guess(tally):
    while tally.trail:
        pair = tally.take_off()
        if pair[1] is None and pair[0] > 0:
            tally.put(-pair[0], None)
            return True
    return False


def follows(count, wishes, wish):
    against = [[-letter] for letter in wish]
    answer = solved(count, wishes + against)
    if answer[0] == "no":
        return ("yes", answer[1])
    return ("no", answer[1])


# Each search begins with an empty trail and guesses first against the letters that all settings found till now share.
# So where it ends in a setting that shares them too, they were forced without a guess; else at least one falls away.
def sure(count, wishes):
    tally = Tally(wishes)
    search(count, tally, [])
    if tally.first_broken() is not None:
        raise NoSetting("no setting meets all wishes")
    letters = [lamp if lamp in tally.taken else -lamp for lamp in range(1, count + 1)]
    fallen = True
    while fallen:
        clear_trail(tally)
        search(count, tally, [-letter for letter in letters])
        fallen = any([-letter in tally.taken for letter in letters])
        letters = [letter for letter in letters if letter in tally.taken]
    return letters


def clear_trail(tally):
    while tally.trail:
        tally.take_off()
