"""The program held against the document's words told with sets: all small tables, and many greater ones."""

import unittest
from random import Random

from tests import model
from tests.helper import ask, key_of, looked_many
from tests.tables import greater_tables, questions, small_tables


def model_says(call, table, answer_count):
    """What the model says of a call that looks, and isn't refused."""
    if call[0] == "state":
        return model.state(table, answer_count)
    return getattr(model, call[0])(table, *call[1:])


class AgainstTheModel(unittest.TestCase):
    def check(self, inputs, answer_count, table):
        begun = [("begin", inputs, answer_count), ("table", table)]
        sets = [("at", x) for x in range(1 << inputs)]
        ones = [("grows_one", o) for o in range(answer_count)]
        told = ask(*begun, ("grows",), ("shrinks",), ("adds",), ("parts",), *ones, *sets)
        expected = [[0], [0], [int(model.grows(table))], model.shrinks(table)]
        expected += [[int(model.adds(table))], model.parts(table)]
        expected += [[int(model.grows_one(table, o))] for o in range(answer_count)]
        expected += [[v] for v in table]
        self.assertEqual(told, expected, (inputs, answer_count, table))
        for name, near in (("lift", model.above(table)), ("sink", model.below(table))):
            told = ask(*begun, (name,), *sets, ("grows",), (name,))
            expected = [[0], [0], [model.changes(table, near)]] + [[v] for v in near] + [[1], [0]]
            self.assertEqual(told, expected, (name, inputs, answer_count, table))

    def test_all_small_tables(self):
        for inputs, answer_count, table in small_tables():
            self.check(inputs, answer_count, table)

    def test_greater_tables(self):
        for inputs, answer_count, table in greater_tables():
            self.check(inputs, answer_count, table)

    def check_questions(self, answer_count, table, calls):
        told = looked_many(answer_count, table, calls)
        for call in calls:
            self.assertEqual(told[key_of(call)], model_says(call, table, answer_count), (call, answer_count, table))

    def test_all_questions_of_all_small_tables(self):
        for inputs, answer_count, table in small_tables():
            self.check_questions(answer_count, table, questions(inputs, answer_count))

    def test_all_questions_of_some_greater_tables(self):
        for inputs, answer_count, table in list(greater_tables())[::37]:
            self.check_questions(answer_count, table, questions(inputs, answer_count))

    def test_some_questions_of_all_greater_tables(self):
        chance = Random(21)
        for inputs, answer_count, table in greater_tables():
            every = questions(inputs, answer_count)
            self.check_questions(answer_count, table, chance.sample(every, 25))

    def test_sets_that_lie_apart_three_and_four_of_them(self):
        chance = Random(22)
        for inputs, answer_count, table in greater_tables():
            calls = [("apart", [chance.randrange(1 << inputs) for k in range(size)]) for size in (3, 4, 4)]
            self.check_questions(answer_count, table, calls)

    def test_the_greater_tables_are_of_each_kind(self):
        kinds = {(model.grows(table), model.adds(table)) for inputs, answer_count, table in greater_tables()}
        self.assertEqual(kinds, {(True, True), (True, False), (False, False)})


if __name__ == "__main__":
    unittest.main()
