"""What holds, a to f, by what the program itself answers: over all small tables, and many greater ones."""

import unittest
from itertools import product
from random import Random

from tests import model
from tests.helper import GREATEST, ask, key_of, looked, looked_many
from tests.tables import greater_tables, known_and_sealed, orders, questions, small_tables


def many_tables():
    yield from small_tables()
    # The greater ones come by turns in four kinds: so each kind is among these.
    yield from list(greater_tables())[::9]


def has_all(more, less):
    return more & less == less


def gives_no_less(one, other):
    return all(has_all(more, less) for more, less in zip(one, other))


class TakenBack(unittest.TestCase):
    """a."""

    def test_nothing_is_taken_back_just_if_it_grows(self):
        seen = set()
        for inputs, answer_count, table in many_tables():
            told = looked_many(answer_count, table, [("wrong", order) for order in orders(inputs)])
            none_wrong = all(answer == [0] for answer in told.values())
            worst = looked_many(answer_count, table, [("worst", x) for x in range(1 << inputs)])
            none_worst = all(answer == [0] for answer in worst.values())
            grows = looked(answer_count, table, ("grows",))[0] == [1]
            self.assertEqual((none_wrong, none_worst), (grows, grows), table)
            seen.add(grows)
        self.assertEqual(seen, {True, False})

    def test_worst_is_what_is_wrong_in_some_order_of_all_its_inputs(self):
        for inputs, answer_count, table in many_tables():
            together = [0] * (1 << inputs)
            for order, told in looked_orders("wrong", inputs, answer_count, table):
                together[model.number_of(order)] |= told[0]
            worst = looked(answer_count, table, *[("worst", x) for x in range(1 << inputs)])
            self.assertEqual(worst, [[v] for v in together], table)

    def test_wrong_is_what_was_told_and_is_not_told_last(self):
        for inputs, answer_count, table in many_tables():
            wrong = dict((tuple(order), told) for order, told in looked_orders("wrong", inputs, answer_count, table))
            for order, told in looked_orders("told", inputs, answer_count, table):
                self.assertEqual(told[0], len(order) + 1)
                self.assertEqual(len(told), len(order) + 2)
                lost = 0
                for v in told[1:]:
                    lost |= v & ~told[-1]
                self.assertEqual(wrong[tuple(order)], [lost], (table, order))


def looked_orders(name, inputs, answer_count, table):
    calls = [(name, order) for order in orders(inputs)]
    told = looked_many(answer_count, table, calls)
    return [(call[1], told[key_of(call)]) for call in calls]


class LyingApart(unittest.TestCase):
    """b."""

    def test_what_is_told_apart_is_what_is_told_of_all_just_if_it_adds(self):
        seen = set()
        for inputs, answer_count, table in many_tables():
            pairs = [("apart", [x, y]) for x in range(1 << inputs) for y in range(1 << inputs)]
            told = looked_many(answer_count, table, pairs).values()
            self.assertTrue(all(whole & ~each == more and each & ~whole == less for each, whole, more, less in told))
            adds = looked(answer_count, table, ("adds",))[0] == [1]
            self.assertEqual(all(each == whole for each, whole, more, less in told), adds, table)
            seen.add(adds)
        self.assertEqual(seen, {True, False})

    def test_where_it_adds_it_is_so_of_three_and_four_places_too(self):
        for inputs, answer_count, table in small_tables():
            if inputs > 2 or not model.adds(table):
                continue
            rows = [list(row) for size in (3, 4) for row in product(range(1 << inputs), repeat=size)]
            told = looked_many(answer_count, table, [("apart", row) for row in rows])
            self.assertTrue(all(answer[0] == answer[1] and answer[2:] == [0, 0] for answer in told.values()), table)

    def test_what_adds_grows(self):
        for inputs, answer_count, table in many_tables():
            adds, grows, grade = looked(answer_count, table, ("adds",), ("grows",), ("grade",))
            self.assertTrue(adds == [0] or grows == [1], table)
            self.assertEqual(grade, [2 - grows[0] - adds[0]], table)

    def test_where_it_adds_each_answer_is_given_of_one_input_alone_or_of_none(self):
        for inputs, answer_count, table in many_tables():
            if looked(answer_count, table, ("adds",)) == [[1]]:
                for told in looked(answer_count, table, *[("least", o) for o in range(answer_count)]):
                    self.assertTrue(set(told[1:]) <= {0, 1, 2, 4, 8}, table)


class Sure(unittest.TestCase):
    """c."""

    def test_sure_stays_sure_and_what_cannot_be_cannot_be_later(self):
        for inputs, answer_count, table in many_tables():
            pairs = known_and_sealed(inputs)
            told = looked_many(answer_count, table, [(name, x, z) for name in ("sure", "may") for x, z in pairs])
            for x, z in pairs:
                sure, may = told["sure", x, z][0], told["may", x, z][0]
                self.assertTrue(has_all(may, sure), (table, x, z))
                for k in range(inputs):
                    # One input more is enough: step by step it's all that may come behind.
                    if (x | z) >> k & 1 == 0:
                        for more, others in ((x | 1 << k, z), (x, z | 1 << k)):
                            self.assertTrue(has_all(told["sure", more, others][0], sure), (table, x, z, k))
                            self.assertTrue(has_all(may, told["may", more, others][0]), (table, x, z, k))

    def test_it_is_what_comes_however_it_ends(self):
        for inputs, answer_count, table in many_tables():
            pairs = known_and_sealed(inputs)
            told = looked_many(answer_count, table, [(name, x, z) for name in ("sure", "may") for x, z in pairs])
            for x, z in pairs:
                ends = [table[y] for y in range(1 << inputs) if has_all(y, x) and y & z == 0]
                self.assertTrue(all(has_all(v, told["sure", x, z][0]) for v in ends), (table, x, z))
                self.assertTrue(all(has_all(told["may", x, z][0], v) for v in ends), (table, x, z))
                if x | z == (1 << inputs) - 1:
                    self.assertEqual([told["sure", x, z], told["may", x, z]], [[table[x]]] * 2)


class SealedEnough(unittest.TestCase):
    """d."""

    def test_what_is_told_makes_the_answer_sure_and_no_fewer_do(self):
        for inputs, answer_count, table in many_tables():
            pairs = known_and_sealed(inputs)
            sure = looked_many(answer_count, table, [("sure", x, z) for x, z in pairs])
            waits = [("waits", x, o) for x in range(1 << inputs) for o in range(answer_count)]
            for (name, x, o), told in looked_many(answer_count, table, waits).items():
                if table[x] >> o & 1 == 0:
                    self.assertEqual(told, [-33], (table, x, o))
                    continue
                enough = [z for known, z in pairs if known == x and sure["sure", x, z][0] >> o & 1]
                fewest = min(enough, key=lambda z: (bin(z).count("1"), z))
                self.assertEqual(told, [bin(fewest).count("1"), fewest], (table, x, o))

    def test_nothing_need_be_sealed_just_where_it_grows(self):
        for inputs, answer_count, table in many_tables():
            waits = [("waits", x, o) for x in range(1 << inputs) for o in range(answer_count)]
            told = looked_many(answer_count, table, waits)
            for o in range(answer_count):
                none_sealed = all(told["waits", x, o] in ([-33], [0, 0]) for x in range(1 << inputs))
                self.assertEqual(looked(answer_count, table, ("grows_one", o)), [[int(none_sealed)]], (table, o))
            none_sealed = all(answer in ([-33], [0, 0]) for answer in told.values())
            self.assertEqual(looked(answer_count, table, ("grows",)), [[int(none_sealed)]], table)


class TheNearest(unittest.TestCase):
    """e."""

    GROWING = [list(table) for table in product(range(4), repeat=4) if model.grows(table)]

    def test_the_one_above_is_the_least_that_grows_and_gives_no_less(self):
        for table in product(range(4), repeat=4):
            up, changed, state = looked(2, list(table), ("up",), ("lift",), ("state",))
            self.assertEqual(up, [4] + state[2:])
            above = up[1:]
            self.assertIn(above, self.GROWING)
            self.assertTrue(gives_no_less(above, table))
            for other in self.GROWING:
                if gives_no_less(other, table):
                    self.assertTrue(gives_no_less(other, above), (table, above, other))

    def test_the_one_below_is_the_greatest_that_grows_and_gives_no_more(self):
        for table in product(range(4), repeat=4):
            down, changed, state = looked(2, list(table), ("down",), ("sink",), ("state",))
            self.assertEqual(down, [4] + state[2:])
            below = down[1:]
            self.assertIn(below, self.GROWING)
            self.assertTrue(gives_no_less(table, below))
            for other in self.GROWING:
                if gives_no_less(table, other):
                    self.assertTrue(gives_no_less(below, other), (table, below, other))

    def test_of_three_inputs(self):
        growing = [list(table) for table in product(range(2), repeat=8) if model.grows(table)]
        self.assertEqual(len(growing), 20)
        for table in product(range(2), repeat=8):
            up, down = looked(1, list(table), ("up",), ("down",))
            more = [other for other in growing if gives_no_less(other, table)]
            less = [other for other in growing if gives_no_less(table, other)]
            self.assertEqual([up, down], [[8] + min(more, key=sum), [8] + max(less, key=sum)], table)

    def test_the_one_above_may_be_told_first_and_the_one_below_is_sure(self):
        for inputs, answer_count, table in many_tables():
            sets = range(1 << inputs)
            up, down = looked(answer_count, table, ("up",), ("down",))
            sure = looked(answer_count, table, *[("sure", x, 0) for x in sets])
            worst = looked(answer_count, table, *[("worst", x) for x in sets])
            self.assertEqual([down[1 + x] for x in sets], [told[0] for told in sure], table)
            self.assertEqual([up[1 + x] & ~table[x] for x in sets], [told[0] for told in worst], table)

    def test_where_it_grows_it_is_both(self):
        for inputs, answer_count, table in many_tables():
            up, down, grows = looked(answer_count, table, ("up",), ("down",), ("grows",))
            self.assertEqual(up == down == [len(table)] + table, grows == [1], table)

    def test_the_least_sets_make_the_one_above(self):
        for inputs, answer_count, table in many_tables():
            above = looked(answer_count, table, ("up",))[0][1:]
            for o in range(answer_count):
                sets = looked(answer_count, table, ("least", o))[0][1:]
                made = [int(any(has_all(x, part) for part in sets)) for x in range(1 << inputs)]
                self.assertEqual(made, [v >> o & 1 for v in above], (table, o))

    def test_one_that_grows_behind_one_that_grows_grows(self):
        for table in self.GROWING:
            for row in self.GROWING:
                self.assertEqual(looked(2, table, ("behind", row), ("grows",)), [[0], [1]], (table, row))

    def test_behind_by_every_row(self):
        for row in product(range(4), repeat=4):
            for table in ([0, 1, 2, 3], [3, 3, 0, 1]):
                told = looked(2, table, ("behind", list(row)), ("state",))
                self.assertEqual(told, [[0], [2, 2] + [row[v] for v in table]])


REFUSED = (
    ("begin", 0, 1), ("begin", 5, 3), ("begin", 1, 0), ("begin", 4, 4), ("begin", GREATEST, GREATEST),
    ("answer", 16, 0), ("answer", 0, 8), ("table", []), ("table", [0] * 15), ("table", [8] * 16), ("behind", [0] * 7),
    ("behind", [8] * 8), ("at", 16), ("grows_one", 3), ("sure", 16, 0), ("sure", 0, 16), ("sure", 1, 1),
    ("may", 16, 0), ("may", 0, GREATEST), ("may", 3, 6), ("waits", 16, 0), ("waits", 0, 3), ("told", [4]),
    ("told", [0, 0]), ("wrong", [GREATEST]), ("wrong", [1, 2, 1]), ("worst", 16), ("apart", []), ("apart", [0, 16]),
    ("least", 3), ("least", GREATEST),
)


class NothingIsChanged(unittest.TestCase):
    """f."""

    def test_by_what_is_refused(self):
        for inputs, answer_count, table in many_tables():
            state = [inputs, answer_count] + table
            told = looked(answer_count, table, *REFUSED, ("state",))
            self.assertTrue(all(len(answer) == 1 and answer[0] in (-22, -2) for answer in told[:-1]), told)
            self.assertEqual(told[-1], state)

    def test_by_each_refusal_alone(self):
        table = [k * 3 % 8 for k in range(16)]
        for call in REFUSED:
            with self.subTest(call):
                told = looked(3, table, call, ("state",))
                self.assertEqual([len(told[0]), told[1]], [1, [4, 3] + table])
                self.assertLess(told[0][0], 0)

    def test_by_looking(self):
        chance = Random(23)
        for inputs, answer_count, table in many_tables():
            every = questions(inputs, answer_count)
            calls = chance.sample(every, 20) + [("grows",), ("shrinks",), ("adds",), ("parts",), ("grows_one", 0)]
            for call in calls:
                told = looked(answer_count, table, call, call, ("state",))
                self.assertEqual(told[0], told[1], (call, table))
                self.assertEqual(told[2], [inputs, answer_count] + table, (call, table))

    def test_by_each_look_alone(self):
        table = [k * 3 % 8 for k in range(16)]
        for call in questions(4, 3):
            self.assertEqual(looked(3, table, call, ("state",))[1], [4, 3] + table, call)

    def test_no_other_answer_is_below_0(self):
        for inputs, answer_count, table in many_tables():
            for call, told in looked_many(answer_count, table, questions(inputs, answer_count)).items():
                self.assertTrue(told == [-33] and call[0] == "waits" or min(told) >= 0, (call, told, table))


class BegunOrNot(unittest.TestCase):
    def test_not_begun_comes_ahead_of_all_else_whatever_is_asked(self):
        for call in questions(4, 3) + [call for call in REFUSED if call[0] != "begin"]:
            told = ask(call, ("begin", 0, 0), call, ("begin", 1, 1), ("state",))
            self.assertEqual(told, [[-61], [-22], [-61], [0], [1, 1, 0, 0]], call)


if __name__ == "__main__":
    unittest.main()
