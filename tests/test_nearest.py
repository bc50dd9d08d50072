"""The calls on the table as a whole: least, up, down, grade, state."""

import unittest

from tests.helper import GREATEST, ask, ask_last, count_inputs, looked


class Least(unittest.TestCase):
    def check(self, answer_count, table, *rows):
        """Each row: the answer, the sets."""
        for o, sets in rows:
            with self.subTest(table=table, o=o):
                self.assertEqual(looked(answer_count, table, ("least", o)), [[len(sets)] + sets])

    def test_nothing_given(self):
        self.check(3, [0] * 16, (0, []), (2, []))

    def test_all_given(self):
        self.check(3, [7] * 16, (0, [0]), (1, [0]), (2, [0]))

    def test_an_answer_of_no_inputs(self):
        self.check(1, [1, 0, 0, 0], (0, [0]))
        self.check(1, [1, 0, 0, 1], (0, [0]))

    def test_one_that_needs_two_inputs(self):
        self.check(1, [0, 0, 0, 1], (0, [3]))
        self.check(1, [0, 0, 0, 1, 0, 1, 1, 1], (0, [3, 5, 6]))
        self.check(1, [0, 0, 0, 1, 0, 1, 1, 0], (0, [3, 5, 6]))

    def test_one_that_is_given_as_long_as_some_input_is_not_there(self):
        self.check(1, [1, 0, 1, 0], (0, [0]))
        self.check(1, [0, 0, 1, 0], (0, [2]))

    def test_of_each_answer_alone(self):
        self.check(2, [0, 1, 2, 3], (0, [1]), (1, [2]))
        self.check(3, [0, 1, 6, 4], (0, [1]), (1, [2]), (2, [2]))

    def test_one_input(self):
        self.check(3, [5, 3], (0, [0]), (1, [1]), (2, [0]))

    def test_a_lesser_part_counts_though_it_is_not_the_next(self):
        # Given of 1, then of none of 3 and 5, and again of 7.
        self.check(1, [0, 1, 0, 0, 0, 0, 0, 1], (0, [1]))
        self.check(1, [1, 0, 0, 0, 0, 0, 0, 1], (0, [0]))

    def test_a_lesser_number_that_is_no_part_does_not_count(self):
        self.check(1, [0, 1, 1, 1, 1, 1, 1, 1], (0, [1, 2, 4]))
        self.check(1, [0, 0, 0, 1, 1, 0, 0, 0], (0, [3, 4]))

    def test_the_most_there_can_be(self):
        pairs = [3, 5, 6, 9, 10, 12]
        table = [4 if x in pairs else 0 for x in range(16)]
        self.check(3, table, (2, pairs))

    def test_no_such_answer(self):
        for answer_count in range(1, 4):
            for o in (answer_count, answer_count + 1, 31, 32, 64, GREATEST):
                with self.subTest(answers=answer_count, o=o):
                    told = ask(("begin", 1, answer_count), ("answer", 1, 1), ("least", o), ("state",))
                    self.assertEqual(told[2:], [[-2], [1, answer_count, 0, 1]])
            self.assertEqual(ask_last(("begin", 1, answer_count), ("least", answer_count - 1)), [0])

    def test_behind_other_calls(self):
        told = looked(1, [0, 0, 0, 1], ("least", 0), ("behind", [1, 0]), ("least", 0), ("sink",), ("least", 0))
        self.assertEqual(told, [[1, 3], [0], [1, 0], [3], [0]])


class UpAndDown(unittest.TestCase):
    def check(self, table, above, below):
        inputs = count_inputs(table)
        told = looked(3, table, ("up",), ("down",), ("state",))
        self.assertEqual(told, [[len(table)] + above, [len(table)] + below, [inputs, 3] + table])
        # What lift and sink make of it is what up and down tell, also if it's done again.
        told = looked(3, table, ("lift",), ("state",), ("lift",), ("state",), ("up",), ("down",))
        self.assertEqual(told[1:], [[inputs, 3] + above, [0], [inputs, 3] + above] + [[len(table)] + above] * 2)
        told = looked(3, table, ("sink",), ("state",), ("sink",), ("state",), ("up",), ("down",))
        self.assertEqual(told[1:], [[inputs, 3] + below, [0], [inputs, 3] + below] + [[len(table)] + below] * 2)

    def test_nothing_given(self):
        self.check([0] * 8, [0] * 8, [0] * 8)

    def test_all_given(self):
        self.check([7] * 16, [7] * 16, [7] * 16)

    def test_an_answer_of_no_inputs(self):
        self.check([1, 0, 0, 0], [1, 1, 1, 1], [0, 0, 0, 0])

    def test_one_that_needs_two_inputs(self):
        self.check([0, 0, 0, 1], [0, 0, 0, 1], [0, 0, 0, 1])
        self.check([0, 0, 0, 1, 0, 0, 0, 0], [0, 0, 0, 1, 0, 0, 0, 1], [0] * 8)

    def test_one_that_is_given_as_long_as_some_input_is_not_there(self):
        self.check([1, 0, 1, 0], [1, 1, 1, 1], [0, 0, 0, 0])
        self.check([0, 0, 1, 0], [0, 0, 1, 1], [0, 0, 0, 0])

    def test_one_input(self):
        self.check([5, 2], [5, 7], [0, 2])
        self.check([3, 6], [3, 7], [2, 6])

    def test_several_answers(self):
        self.check([1, 2, 4, 0], [1, 3, 5, 7], [0, 0, 0, 0])
        self.check([7, 3, 6, 3], [7, 7, 7, 7], [2, 3, 2, 3])

    def test_four_inputs(self):
        self.check([0, 1] + [0] * 14, [0, 1] * 8, [0] * 16)
        self.check([1] * 7 + [0] + [1] * 8, [1] * 16, [0] * 8 + [1] * 8)

    def test_turned_all_over(self):
        turn = ("behind", [7, 6, 5, 4, 3, 2, 1, 0])
        told = looked(3, [1, 2, 4, 0], turn, ("up",), ("down",))
        self.assertEqual(told, [[0], [4, 6, 7, 7, 7], [4, 0, 5, 3, 7]])


class Grade(unittest.TestCase):
    def check(self, answer_count, table, grade):
        self.assertEqual(looked(answer_count, table, ("grade",)), [[grade]], table)

    def test_it_adds(self):
        for inputs in range(1, 5):
            self.check(3, [0] * (1 << inputs), 0)
            self.check(3, [7] * (1 << inputs), 0)
        self.check(2, [0, 1, 2, 3], 0)
        self.check(2, [2, 3, 2, 3], 0)
        self.check(1, [0, 1], 0)

    def test_it_grows_and_does_not_add(self):
        self.check(1, [0, 0, 0, 1], 1)
        self.check(3, [0, 1, 2, 7], 1)
        self.check(3, [0] * 15 + [4], 1)

    def test_it_does_not_grow(self):
        self.check(1, [1, 0], 2)
        self.check(1, [1, 0, 0, 0], 2)
        self.check(1, [1, 0, 1, 0], 2)
        self.check(2, [0, 1, 2, 1], 2)
        self.check(3, [0] * 14 + [4, 0], 2)

    def test_behind_other_calls(self):
        told = looked(1, [0, 0, 0, 1], ("grade",), ("behind", [1, 0]), ("grade",), ("lift",), ("grade",))
        self.assertEqual(told, [[1], [0], [2], [1], [0]])


class State(unittest.TestCase):
    def test_each_size(self):
        for inputs in range(1, 5):
            for answer_count in range(1, 4):
                told = ask(("begin", inputs, answer_count), ("state",))
                self.assertEqual(told, [[0], [inputs, answer_count] + [0] * (1 << inputs)])

    def test_what_is_given_of_each_set(self):
        self.assertEqual(looked(3, [5, 2], ("state",)), [[1, 3, 5, 2]])
        row = [k * 5 % 8 for k in range(16)]
        self.assertEqual(looked(3, row, ("state",)), [[4, 3] + row])

    def test_behind_each_call_that_changes(self):
        told = ask(("begin", 2, 2), ("answer", 3, 2), ("state",), ("table", [1, 2, 3, 0]), ("state",),
                   ("behind", [3, 2, 1, 0]), ("state",), ("lift",), ("state",), ("begin", 1, 1), ("state",))
        shown = [told[k] for k in range(2, 11, 2)]
        self.assertEqual(shown, [[2, 2, 0, 0, 0, 2], [2, 2, 1, 2, 3, 0], [2, 2, 2, 1, 0, 3], [2, 2, 2, 3, 2, 3],
                                 [1, 1, 0, 0]])

    def test_what_was_told_stays_as_it_was(self):
        told = ask(("begin", 1, 1), ("state",), ("answer", 0, 1), ("state",))
        self.assertEqual(told, [[0], [1, 1, 0, 0], [0], [1, 1, 1, 0]])

    def test_a_refused_begin_keeps_it(self):
        for wrong in (("begin", 0, 1), ("begin", 5, 1), ("begin", 1, 0), ("begin", 1, 4)):
            self.assertEqual(looked(2, [1, 2, 3, 0], wrong, ("state",)), [[-22], [2, 2, 1, 2, 3, 0]])


if __name__ == "__main__":
    unittest.main()
