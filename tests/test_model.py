"""The program held against the document's words told with sets: all small tables, and many greater ones."""

import unittest
from itertools import product
from random import Random

from tests import model
from tests.helper import ask


def small_tables():
    for inputs, answer_count in ((1, 1), (1, 2), (1, 3), (2, 1), (2, 2), (3, 1)):
        for table in product(range(1 << answer_count), repeat=1 << inputs):
            yield inputs, answer_count, list(table)


def greater_tables():
    chance = Random(20)
    for inputs, answer_count in ((2, 3), (3, 2), (3, 3), (4, 1), (4, 2), (4, 3)):
        for round_number in range(60):
            table = [chance.randrange(1 << answer_count) for x in range(1 << inputs)]
            yield inputs, answer_count, table
            # Chance alone hardly ever makes a table that grows or nearly does.
            grown = model.above(table[:2] + [0] * (len(table) - 2)) if round_number % 2 else model.below(table)
            yield inputs, answer_count, grown
            grown = list(grown)
            grown[chance.randrange(len(grown))] = chance.randrange(1 << answer_count)
            yield inputs, answer_count, grown
            yield inputs, answer_count, adding_table(chance, inputs, answer_count)


def adding_table(chance, inputs, answer_count):
    base = chance.randrange(1 << answer_count)
    alone = [chance.randrange(1 << answer_count) for k in range(inputs)]
    table = []
    for x in range(1 << inputs):
        told = base
        for k in model.members(x):
            told |= alone[k]
        table.append(told)
    return table


class AgainstTheModel(unittest.TestCase):
    def check(self, inputs, answer_count, table):
        begun = [("begin", inputs, answer_count), ("table", table)]
        sets = [("at", x) for x in range(1 << inputs)]
        ones = [("grows_one", o) for o in range(answer_count)]
        told = ask(*begun, ("grows",), ("shrinks",), ("adds",), ("parts",), *ones, *sets)
        expected = [[0], [0], [int(model.grows(table))], model.shrinks(table)]
        expected += [[int(model.adds(table))], model.parts(table)]
        expected += [[int(model.grows_one(table, o))] for o in range(answer_count)]
        expected += [[v] for v in table]
        self.assertEqual(told, expected, (inputs, answer_count, table))
        for name, near in (("lift", model.above(table)), ("sink", model.below(table))):
            told = ask(*begun, (name,), *sets, ("grows",), (name,))
            expected = [[0], [0], [model.changes(table, near)]] + [[v] for v in near] + [[1], [0]]
            self.assertEqual(told, expected, (name, inputs, answer_count, table))

    def test_all_small_tables(self):
        for inputs, answer_count, table in small_tables():
            self.check(inputs, answer_count, table)

    def test_greater_tables(self):
        for inputs, answer_count, table in greater_tables():
            self.check(inputs, answer_count, table)

    def test_the_greater_tables_are_of_each_kind(self):
        kinds = {(model.grows(table), model.adds(table)) for inputs, answer_count, table in greater_tables()}
        self.assertEqual(kinds, {(True, True), (True, False), (False, False)})


def shown(calls, inputs):
    told = ask(*calls, *[("at", x) for x in range(1 << inputs)])
    return [answer[0] for answer in told[len(calls):]]


class WhatHolds(unittest.TestCase):
    def test_the_one_above_is_the_least_that_grows_and_gives_no_less(self):
        growing = [list(table) for table in product(range(4), repeat=4) if model.grows(table)]
        for table in product(range(4), repeat=4):
            lifted = shown([("begin", 2, 2), ("table", list(table)), ("lift",)], 2)
            self.assertIn(lifted, growing)
            self.assertTrue(gives_no_less(lifted, table))
            for other in growing:
                if gives_no_less(other, table):
                    self.assertTrue(gives_no_less(other, lifted), (table, lifted, other))

    def test_the_one_below_is_the_greatest_that_grows_and_gives_no_more(self):
        growing = [list(table) for table in product(range(4), repeat=4) if model.grows(table)]
        for table in product(range(4), repeat=4):
            sunk = shown([("begin", 2, 2), ("table", list(table)), ("sink",)], 2)
            self.assertIn(sunk, growing)
            self.assertTrue(gives_no_less(table, sunk))
            for other in growing:
                if gives_no_less(table, other):
                    self.assertTrue(gives_no_less(sunk, other), (table, sunk, other))

    def test_one_that_grows_behind_one_that_grows_grows(self):
        growing = [list(table) for table in product(range(4), repeat=4) if model.grows(table)]
        for table in growing:
            for row in growing:
                told = ask(("begin", 2, 2), ("table", table), ("behind", row), ("grows",))
                self.assertEqual(told, [[0], [0], [0], [1]], (table, row))

    def test_what_adds_grows(self):
        for table in product(range(2), repeat=8):
            told = ask(("begin", 3, 1), ("table", list(table)), ("adds",), ("grows",))
            self.assertTrue(told[2] == [0] or told[3] == [1], table)

    def test_behind_by_every_row(self):
        for row in product(range(4), repeat=4):
            for table in ([0, 1, 2, 3], [3, 3, 0, 1]):
                told = shown([("begin", 2, 2), ("table", table), ("behind", list(row))], 2)
                self.assertEqual(told, [row[v] for v in table])


def gives_no_less(one, other):
    return all(more & less == less for more, less in zip(one, other))


if __name__ == "__main__":
    unittest.main()
