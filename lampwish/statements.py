"""Statements: the truth of one in a setting, its wishes, and one weighed (points 19 to 21)."""

from lampwish.solving import solved


def true_in(statement, setting):
    values = []
    for part in inner_first(statement):
        values.append(value_of(part, values, setting))
    return values[0]


# Takes the values of the part's own parts off the end of those found till now.
def value_of(part, values, setting):
    if part[0] == "lamp":
        return setting[part[1] - 1]
    last = values.pop()
    if part[0] == "not":
        return not last
    first = values.pop()
    if part[0] == "and":
        return first and last
    if part[0] == "or":
        return first or last
    return first == last


def sheet_of(count, statement):
    lamps = count
    wishes = []
    letters = []
    for part in inner_first(statement):
        if part[0] == "lamp":
            letters.append(part[1])
        elif part[0] == "not":
            letters.append(-letters.pop())
        else:
            two = letters.pop()
            one = letters.pop()
            lamps += 1
            wishes.extend(wishes_of(part[0], lamps, one, two))
            letters.append(lamps)
    wishes.append(letters)
    return (lamps, wishes)


def wishes_of(word, own, one, two):
    if word == "and":
        return [[-own, one], [-own, two], [own, -one, -two]]
    if word == "or":
        return [[own, -one], [own, -two], [-own, one, two]]
    return [[-own, -one, two], [-own, one, -two], [own, one, two], [own, -one, -two]]


def weighed(count, statement):
    sheet = sheet_of(count, statement)
    answer = solved(sheet[0], sheet[1])
    if answer[0] == "yes":
        return ("yes", answer[1][:count])
    return answer


# All parts, S and its own before T and its own before the statement itself.
# Found by a list, not by calls one within the other, so that no depth is too deep.
def inner_first(statement):
    outer_first = []
    waiting = [statement]
    while waiting:
        part = waiting.pop()
        outer_first.append(part)
        if part[0] != "lamp":
            waiting.extend(part[1:])
    return list(reversed(outer_first))
