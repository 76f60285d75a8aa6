"""Points 1 and 19 to 21: true_in, sheet_of and weighed."""

from random import Random

from lampwish.showing import shows
from lampwish.solving import solved
from lampwish.statements import sheet_of, true_in, weighed
from tests.helper import PureCase, plain_settings, plainly_met, plainly_shows, settings

ONE = ("lamp", 1)
TWO = ("lamp", 2)
THREE = ("lamp", 3)
BOTH_WAYS = [[True, True], [True, False], [False, True], [False, False]]


def plainly_true(statement, setting):
    word = statement[0]
    if word == "lamp":
        return setting[statement[1] - 1]
    if word == "not":
        return not plainly_true(statement[1], setting)
    one, two = plainly_true(statement[1], setting), plainly_true(statement[2], setting)
    return {"and": one and two, "or": one or two, "same": one == two}[word]


def plain_letter(statement, lamps, wishes):
    """Point 20: the letter of a statement; its lamps and wishes come behind those that are there."""
    word = statement[0]
    if word == "lamp":
        return statement[1]
    if word == "not":
        return -plain_letter(statement[1], lamps, wishes)
    one = plain_letter(statement[1], lamps, wishes)
    two = plain_letter(statement[2], lamps, wishes)
    lamps.append(lamps[-1] + 1)
    own = lamps[-1]
    if word == "and":
        wishes += [[-own, one], [-own, two], [own, -one, -two]]
    elif word == "or":
        wishes += [[own, -one], [own, -two], [-own, one, two]]
    else:
        wishes += [[-own, -one, two], [-own, one, -two], [own, one, two], [own, -one, -two]]
    return own


def plain_sheet(count, statement):
    lamps, wishes = [count], []
    letter = plain_letter(statement, lamps, wishes)
    return lamps[-1], wishes + [[letter]]


def drawn_statement(source, count, depth):
    word = source.choice(("lamp", "not", "and", "or", "same", "and", "or", "same"))
    if depth == 0 or word == "lamp":
        return ("lamp", source.randrange(1, count + 1))
    if word == "not":
        return ("not", drawn_statement(source, count, depth - 1))
    return (word, drawn_statement(source, count, depth - 1), drawn_statement(source, count, depth - 1))


def drawn_statements(seed, turns):
    source = Random(seed)
    drawn = []
    for turn in range(turns):
        count = source.randrange(1, 5)
        drawn.append((count, drawn_statement(source, count, source.randrange(6))))
    return drawn


def nested(word, depth, count, left):
    """Statements one within the other, always on the left or always on the right."""
    statement = ONE
    for turn in range(depth):
        lamp = ("lamp", turn % count + 1)
        statement = (word, statement, lamp) if left else (word, lamp, statement)
    return statement


def nots(depth, statement):
    for turn in range(depth):
        statement = ("not", statement)
    return statement


class TrueIn(PureCase):
    def check(self, statement, expected):
        self.assertEqual([self.answer(true_in, statement, setting) for setting in BOTH_WAYS], expected)
        for setting in BOTH_WAYS:
            self.assertIs(type(true_in(statement, setting)), bool)

    def test_a_lamp(self):
        self.check(ONE, [True, True, False, False])
        self.check(TWO, [True, False, True, False])

    def test_not(self):
        self.check(("not", ONE), [False, False, True, True])
        self.check(("not", ("not", ONE)), [True, True, False, False])

    def test_and(self):
        self.check(("and", ONE, TWO), [True, False, False, False])

    def test_or(self):
        self.check(("or", ONE, TWO), [True, True, True, False])

    def test_same(self):
        self.check(("same", ONE, TWO), [True, False, False, True])

    def test_a_part_beside_itself_and_its_not(self):
        self.check(("same", ONE, ONE), [True] * 4)
        self.check(("same", ONE, ("not", ONE)), [False] * 4)
        self.check(("and", TWO, ("not", TWO)), [False] * 4)
        self.check(("or", TWO, ("not", TWO)), [True] * 4)

    def test_parts_within_parts(self):
        self.check(("and", ("not", ONE), ("or", ONE, TWO)), [False, False, True, False])
        self.check(("not", ("same", ("and", ONE, TWO), ("not", TWO))), [True, True, False, True])
        self.check(("or", ("and", ONE, ("not", TWO)), ("and", ("not", ONE), TWO)), [False, True, True, False])

    def test_the_last_of_many_lamps(self):
        self.assertIs(self.answer(true_in, ("lamp", 1000), [False] * 999 + [True]), True)
        self.assertIs(self.answer(true_in, ("lamp", 1000), [True] * 999 + [False]), False)

    def test_a_hundred_one_within_the_other_and_somewhat_more(self):
        for depth in (100, 150):
            self.assertIs(self.answer(true_in, nots(depth, ONE), [True]), True)
            self.assertIs(self.answer(true_in, nots(depth + 1, ONE), [True]), False)
            for word in ("and", "or", "same"):
                for left in (True, False):
                    statement = nested(word, depth, 3, left)
                    for setting in settings(3):
                        self.assertIs(self.answer(true_in, statement, setting), plainly_true(statement, setting))

    def test_drawn_statements(self):
        for count, statement in drawn_statements(91, 600):
            for setting in settings(count):
                self.assertIs(self.answer(true_in, statement, setting), plainly_true(statement, setting))


class SheetOf(PureCase):
    def test_a_lamp_alone(self):
        self.assertEqual(self.answer(sheet_of, 1, ONE), (1, [[1]]))
        self.assertEqual(self.answer(sheet_of, 5, THREE), (5, [[3]]))

    def test_not(self):
        self.assertEqual(self.answer(sheet_of, 2, ("not", TWO)), (2, [[-2]]))
        self.assertEqual(self.answer(sheet_of, 2, ("not", ("not", TWO))), (2, [[2]]))

    def test_and(self):
        self.assertEqual(self.answer(sheet_of, 2, ("and", ONE, TWO)), (3, [[-3, 1], [-3, 2], [3, -1, -2], [3]]))

    def test_or(self):
        self.assertEqual(self.answer(sheet_of, 2, ("or", ONE, TWO)), (3, [[3, -1], [3, -2], [-3, 1, 2], [3]]))

    def test_same(self):
        self.assertEqual(self.answer(sheet_of, 2, ("same", ONE, TWO)),
                         (3, [[-3, -1, 2], [-3, 1, -2], [3, 1, 2], [3, -1, -2], [3]]))

    def test_the_own_lamps_are_numbered_on_from_count(self):
        self.assertEqual(self.answer(sheet_of, 9, ("and", TWO, ONE)), (10, [[-10, 2], [-10, 1], [10, -2, -1], [10]]))

    def test_a_not_within_and_around(self):
        self.assertEqual(self.answer(sheet_of, 2, ("or", ("not", ONE), TWO)), (3, [[3, 1], [3, -2], [-3, -1, 2], [3]]))
        self.assertEqual(self.answer(sheet_of, 2, ("not", ("and", ONE, ("not", TWO)))),
                         (3, [[-3, 1], [-3, -2], [3, -1, 2], [-3]]))

    def test_first_s_then_t_then_the_part(self):
        statement = ("or", ("and", ONE, TWO), ("not", ("same", TWO, THREE)))
        self.assertEqual(self.answer(sheet_of, 3, statement), (6, [
            [-4, 1], [-4, 2], [4, -1, -2],
            [-5, -2, 3], [-5, 2, -3], [5, 2, 3], [5, -2, -3],
            [6, -4], [6, 5], [-6, 4, -5],
            [6]]))

    def test_parts_within_s_and_within_t(self):
        statement = ("and", ("or", ONE, ("and", TWO, ONE)), ("or", ("and", ONE, TWO), TWO))
        self.assertEqual(self.answer(sheet_of, 2, statement), (7, [
            [-3, 2], [-3, 1], [3, -2, -1],
            [4, -1], [4, -3], [-4, 1, 3],
            [-5, 1], [-5, 2], [5, -1, -2],
            [6, -5], [6, -2], [-6, 5, 2],
            [-7, 4], [-7, 6], [7, -4, -6],
            [7]]))

    def test_each_part_has_a_lamp_of_its_own_though_it_is_equal_to_another(self):
        part = ("and", ONE, TWO)
        self.assertEqual(self.answer(sheet_of, 2, ("same", part, part)), (5, [
            [-3, 1], [-3, 2], [3, -1, -2],
            [-4, 1], [-4, 2], [4, -1, -2],
            [-5, -3, 4], [-5, 3, -4], [5, 3, 4], [5, -3, -4],
            [5]]))

    def test_a_part_beside_itself_and_its_not(self):
        self.assertEqual(self.answer(sheet_of, 1, ("and", ONE, ONE)), (2, [[-2, 1], [-2, 1], [2, -1, -1], [2]]))
        self.assertEqual(self.answer(sheet_of, 1, ("same", ONE, ("not", ONE))),
                         (2, [[-2, -1, -1], [-2, 1, 1], [2, 1, -1], [2, -1, 1], [2]]))

    def test_the_kinds(self):
        told = self.answer(sheet_of, 2, ("and", ONE, TWO))
        self.assertIs(type(told), tuple)
        self.assertIs(type(told[1]), list)
        self.assertEqual({type(wish) for wish in told[1]}, {list})

    def test_a_hundred_one_within_the_other_and_somewhat_more(self):
        for depth in (100, 150):
            self.assertEqual(self.answer(sheet_of, 1, nots(depth, ONE)), (1, [[1]]))
            self.assertEqual(self.answer(sheet_of, 1, nots(depth + 1, ONE)), (1, [[-1]]))
            for word in ("and", "or", "same"):
                for left in (True, False):
                    statement = nested(word, depth, 3, left)
                    self.assertEqual(self.answer(sheet_of, 3, statement), plain_sheet(3, statement))

    def test_drawn_statements(self):
        for count, statement in drawn_statements(92, 600):
            self.assertEqual(self.answer(sheet_of, count, statement), plain_sheet(count, statement))

    def test_a_setting_goes_on_in_one_way_just_where_it_makes_the_statement_true(self):
        checked = 0
        for count, statement in drawn_statements(93, 600):
            lamps, wishes = self.answer(sheet_of, count, statement)
            if lamps <= 10:
                checked += 1
                expected = [setting for setting in settings(count) if plainly_true(statement, setting)]
                self.assertEqual([longer[:count] for longer in plain_settings(lamps, wishes)], expected)
        self.assertGreater(checked, 200)


class Weighed(PureCase):
    def test_a_lamp_alone(self):
        self.assertEqual(self.answer(weighed, 1, ONE), ("yes", [True]))
        self.assertEqual(self.answer(weighed, 3, TWO), ("yes", [True, True, True]))

    def test_not(self):
        self.assertEqual(self.answer(weighed, 2, ("not", ONE)), ("yes", [False, True]))
        self.assertEqual(self.answer(weighed, 2, ("not", ("not", ONE))), ("yes", [True, True]))

    def test_the_setting_of_the_lamps_alone(self):
        self.assertEqual(self.answer(weighed, 2, ("and", ONE, TWO)), ("yes", [True, True]))
        self.assertEqual(self.answer(weighed, 2, ("not", ("or", ONE, TWO))), ("yes", [False, False]))
        self.assertEqual(self.answer(weighed, 3, ("same", ONE, ("not", THREE))), ("yes", [True, True, False]))

    def test_the_steps_over_its_wishes(self):
        statement = ("and", ONE, ("not", ONE))
        kind, steps = self.answer(weighed, 1, statement)
        self.assertEqual((kind, steps), ("no", [(0, 1, 1, [-2]), (3, 4, 2, [])]))
        self.assertIs(shows([[-2, 1], [-2, -1], [2, -1, 1], [2]], steps), True)

    def test_a_statement_same_as_its_own_not(self):
        for part in (ONE, ("not", ONE), ("or", ONE, TWO), ("same", ("and", ONE, TWO), ("not", THREE))):
            kind, steps = self.answer(weighed, 3, ("same", part, ("not", part)))
            self.assertEqual(kind, "no")
            self.assertIs(plainly_shows(plain_sheet(3, ("same", part, ("not", part)))[1], steps), True)
            kind, setting = self.answer(weighed, 3, ("same", part, part))
            self.assertEqual((kind, len(setting)), ("yes", 3))

    def test_a_hundred_one_within_the_other_and_somewhat_more(self):
        for depth in (100, 150):
            self.assertEqual(self.answer(weighed, 1, nots(depth + 1, ONE)), ("yes", [False]))
            for word in ("and", "or", "same"):
                for left in (True, False):
                    statement = nested(word, depth, 3, left)
                    kind, setting = self.answer(weighed, 3, statement)
                    self.assertEqual((kind, len(setting)), ("yes", 3))
                    self.assertIs(plainly_true(statement, setting), True)
                    own = ("and", statement, ("not", statement))
                    kind, steps = self.answer(weighed, 3, own)
                    self.assertEqual((kind, plainly_shows(plain_sheet(3, own)[1], steps)), ("no", True))

    def test_drawn_statements_by_trying_all_settings(self):
        kinds = {"yes": 0, "no": 0}
        for count, statement in drawn_statements(94, 1500):
            lamps, wishes = plain_sheet(count, statement)
            kind, told = self.answer(weighed, count, statement)
            kinds[kind] += 1
            good = [setting for setting in settings(count) if plainly_true(statement, setting)]
            whole = solved(lamps, wishes)
            self.assertEqual(kind, whole[0])
            if kind == "yes":
                self.assertIn(told, good)
                self.assertEqual(told, whole[1][:count])
                self.assertTrue(all(plainly_met(wish, whole[1]) for wish in wishes))
            else:
                self.assertEqual(good, [])
                self.assertEqual(told, whole[1])
                self.assertIs(plainly_shows(wishes, told), True)
        self.assertGreater(min(kinds.values()), 50)
