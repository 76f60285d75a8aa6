"""Steps: whether a row of them shows that no setting meets all wishes, and a row trimmed (points 9 to 11)."""

from lampwish.errors import NoMerge
from lampwish.wishes import marked, merged


def shows(wishes, steps):
    known = list(wishes)
    for step in steps:
        if not is_right(known, step):
            return False
        known.append(step[3])
    if steps:
        return steps[-1][3] == []
    return [] in wishes


def is_right(known, step):
    one = step[0]
    two = step[1]
    lamp = step[2]
    # Asked for first: an index below nought would mean a wish from the end, a lamp below 1 the wishes turned round.
    if min(one, two) < 0 or max(one, two) >= len(known) or lamp < 1:
        return False
    try:
        return merged(known[one], known[two], lamp) == step[3]
    except NoMerge:
        return False


def trimmed(wishes, steps):
    given = len(wishes)
    needed = needed_numbers(given, steps)
    moved = {}
    row = []
    for number, step in enumerate(steps, start=given):
        if number in needed:
            moved[number] = given + len(row)
            row.append((moved.get(step[0], step[0]), moved.get(step[1], step[1]), step[2], list(step[3])))
    return row


# From the last step to the first, since a step merges only wishes that stand before its own.
def needed_numbers(given, steps):
    last = given + len(steps) - 1
    needed = marked([last])
    for number in range(last, given - 1, -1):
        if number in needed:
            step = steps[number - given]
            needed[step[0]] = True
            needed[step[1]] = True
    return needed
