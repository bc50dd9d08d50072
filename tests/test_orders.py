"""The calls on inputs in an order, and on inputs that lie apart: told, wrong, worst, apart."""

import unittest

from tests.helper import GREATEST, ask, ask_last, looked

SOME = [1, 2, 3, 0]
AS_LONG_AS = [1, 0, 1, 0]
NEEDS_TWO = [0, 0, 0, 1]
COUNTED = [k % 8 for k in range(16)]

# Of two inputs.
WRONG_ORDERS = ([2], [3], [0, 2], [2, 0], [0, 1, 2], [0, 0], [1, 1], [0, 1, 0], [1, 0, 0], [0, 1, 0, 1], [2, 2],
                [GREATEST], [0, GREATEST], [GREATEST, 0], [GREATEST] * 4, [1, 0, 2, 3])


class ToldAndWrong(unittest.TestCase):
    def check(self, answer_count, table, *rows):
        """Each row: the order, what's told at each step, what's taken back."""
        for order, steps, wrong in rows:
            with self.subTest(table=table, order=order):
                told = looked(answer_count, table, ("told", order), ("wrong", order))
                self.assertEqual(told, [[len(order) + 1] + steps, [wrong]])

    def test_each_order_of_two_inputs(self):
        self.check(2, SOME, ([], [1], 0), ([0], [1, 2], 1), ([1], [1, 3], 0), ([0, 1], [1, 2, 0], 3),
                   ([1, 0], [1, 3, 0], 3))

    def test_an_order_of_none(self):
        self.check(1, [0, 1], ([], [0], 0))
        self.check(3, [7] + [0] * 15, ([], [7], 0))

    def test_nothing_given(self):
        self.check(3, [0] * 16, ([], [0], 0), ([3, 2, 1, 0], [0] * 5, 0))

    def test_all_given(self):
        self.check(3, [7] * 16, ([], [7], 0), ([3, 2, 1, 0], [7] * 5, 0))

    def test_an_answer_of_no_inputs(self):
        self.check(1, [1, 0, 0, 0], ([0], [1, 0], 1), ([1], [1, 0], 1), ([1, 0], [1, 0, 0], 1))

    def test_one_that_needs_two_inputs(self):
        self.check(1, NEEDS_TWO, ([0], [0, 0], 0), ([0, 1], [0, 0, 1], 0), ([1, 0], [0, 0, 1], 0))

    def test_one_that_is_given_as_long_as_some_input_is_not_there(self):
        self.check(1, AS_LONG_AS, ([0], [1, 0], 1), ([1], [1, 1], 0), ([1, 0], [1, 1, 0], 1), ([0, 1], [1, 0, 0], 1))

    def test_the_order_counts(self):
        # Answer 0 is told of input 0 alone: it's told, and taken back, only if that one comes first.
        self.check(1, [0, 1, 0, 0], ([0, 1], [0, 1, 0], 1), ([1, 0], [0, 0, 0], 0))

    def test_what_goes_and_comes_again_is_not_taken_back(self):
        self.check(1, [1, 0, 0, 1], ([0, 1], [1, 0, 1], 0), ([0], [1, 0], 1))

    def test_one_input(self):
        self.check(3, [5, 3], ([0], [5, 3], 4))

    def test_four_inputs(self):
        self.check(3, COUNTED, ([3, 1, 0, 2], [0, 0, 2, 3, 7], 0), ([2, 0], [0, 4, 5], 0), ([2, 3], [0, 4, 4], 0))
        self.check(3, list(reversed(COUNTED)), ([3, 1, 0, 2], [7, 7, 5, 4, 0], 7), ([2, 0], [7, 3, 2], 5))

    def test_refused(self):
        for order in WRONG_ORDERS:
            for name in ("told", "wrong"):
                with self.subTest(name=name, order=order):
                    self.assertEqual(looked(2, SOME, (name, order), ("state",)), [[-22], [2, 2] + SOME])

    def test_the_edge_of_each_size(self):
        for inputs in range(1, 5):
            for name, told in (("told", [2, 0, 0]), ("wrong", [0])):
                with self.subTest(name=name, inputs=inputs):
                    self.assertEqual(ask_last(("begin", inputs, 1), (name, [inputs - 1])), told)
                    self.assertEqual(ask_last(("begin", inputs, 1), (name, [inputs])), [-22])

    def test_an_order_has_numbers_of_inputs_not_sets(self):
        # 3 would be a set of two inputs; it's no input.
        self.assertEqual(looked(1, NEEDS_TWO, ("told", [3]), ("wrong", [3])), [[-22], [-22]])
        self.check(1, [1, 0, 1, 1], ([1], [1, 1], 0))

    def test_behind_other_calls(self):
        turned = looked(1, NEEDS_TWO, ("behind", [1, 0]), ("told", [0, 1]), ("wrong", [0, 1]))
        self.assertEqual(turned, [[0], [3, 1, 1, 0], [1]])
        lifted = looked(1, AS_LONG_AS, ("lift",), ("lift",), ("told", [0, 1]), ("wrong", [0, 1]))
        self.assertEqual(lifted, [[2], [0], [3, 1, 1, 1], [0]])


class Worst(unittest.TestCase):
    def check(self, answer_count, table, expected):
        sets = [("worst", x) for x in range(len(table))]
        self.assertEqual(looked(answer_count, table, *sets), [[v] for v in expected], table)

    def test_several_answers(self):
        self.check(2, SOME, [0, 1, 0, 3])
        self.check(3, [7, 3, 6, 2], [0, 4, 1, 5])

    def test_nothing_given(self):
        self.check(3, [0] * 16, [0] * 16)

    def test_all_given(self):
        self.check(3, [7] * 16, [0] * 16)

    def test_an_answer_of_no_inputs(self):
        self.check(1, [1, 0, 0, 0], [0, 1, 1, 1])

    def test_one_that_needs_two_inputs(self):
        self.check(1, NEEDS_TWO, [0, 0, 0, 0])
        self.check(1, [0, 0, 0, 1, 0, 0, 0, 0], [0, 0, 0, 0, 0, 0, 0, 1])

    def test_one_that_is_given_as_long_as_some_input_is_not_there(self):
        self.check(1, AS_LONG_AS, [0, 1, 0, 1])

    def test_some_order_is_enough(self):
        self.check(1, [0, 1, 0, 0], [0, 0, 0, 1])

    def test_all_of_the_inputs_have_come_at_the_end(self):
        # Behind one input it's gone, but behind both it's there again.
        self.check(1, [1, 0, 0, 1], [0, 1, 1, 0])

    def test_only_the_inputs_of_x_come(self):
        # Input 2 would take back all: it's none of 3's.
        self.check(2, [3, 3, 3, 3, 0, 0, 0, 0], [0, 0, 0, 0, 3, 3, 3, 3])
        # Told of input 2 alone: not on the way to 3.
        self.check(1, [0, 0, 0, 0, 1, 0, 0, 0], [0, 0, 0, 0, 0, 1, 1, 1])

    def test_one_input(self):
        self.check(3, [5, 3], [0, 4])

    def test_different_orders_are_counted_together(self):
        # 1 is told by the one order, 2 by the other.
        self.check(2, [0, 1, 2, 0], [0, 0, 0, 3])

    def test_refused(self):
        for x in (4, 5, 8, 16, 1 << 30, GREATEST):
            with self.subTest(x=x):
                self.assertEqual(looked(2, SOME, ("worst", x), ("state",)), [[-22], [2, 2] + SOME])
        for inputs in range(1, 5):
            count = 1 << inputs
            told = ask(("begin", inputs, 1), ("worst", count - 1), ("worst", count))
            self.assertEqual(told, [[0], [0], [-22]])


class Apart(unittest.TestCase):
    def check(self, answer_count, table, *rows):
        """Each row: the sets, what's answered."""
        for sets, expected in rows:
            with self.subTest(table=table, sets=sets):
                self.assertEqual(looked(answer_count, table, ("apart", sets)), [expected])

    def test_more_is_told_of_all(self):
        self.check(3, [0, 1, 2, 7], ([1, 2], [3, 7, 4, 0]), ([2, 1], [3, 7, 4, 0]), ([3, 1], [7, 7, 0, 0]))

    def test_less_is_told_of_all(self):
        self.check(3, [0, 3, 6, 1], ([1, 2], [7, 1, 0, 6]))

    def test_more_and_less_at_once(self):
        self.check(3, [0, 1, 2, 6], ([1, 2], [3, 6, 4, 1]))

    def test_one_set(self):
        self.check(2, SOME, ([0], [1, 1, 0, 0]), ([1], [2, 2, 0, 0]), ([2], [3, 3, 0, 0]), ([3], [0, 0, 0, 0]))

    def test_a_place_with_no_inputs_tells_too(self):
        self.check(2, SOME, ([0, 1], [3, 2, 0, 1]), ([3, 0], [1, 0, 0, 1]), ([0, 0], [1, 1, 0, 0]))

    def test_nothing_given(self):
        self.check(3, [0] * 16, ([1, 2, 4, 8], [0, 0, 0, 0]))

    def test_all_given(self):
        self.check(3, [7] * 16, ([1, 2, 4, 8], [7, 7, 0, 0]))

    def test_one_that_needs_two_inputs(self):
        self.check(1, NEEDS_TWO, ([1, 2], [0, 1, 1, 0]), ([3], [1, 1, 0, 0]), ([1, 1], [0, 0, 0, 0]))

    def test_one_that_is_given_as_long_as_some_input_is_not_there(self):
        self.check(1, AS_LONG_AS, ([1, 2], [1, 0, 0, 1]), ([2, 2], [1, 1, 0, 0]), ([1, 3], [0, 0, 0, 0]))

    def test_sets_that_have_some_in_common(self):
        self.check(3, [0, 0, 0, 1, 0, 0, 2, 4], ([3, 6], [3, 4, 4, 3]), ([3, 2], [1, 1, 0, 0]))
        # Together they are 3: that they have input 0 both doesn't count twice.
        self.check(2, [0, 1, 0, 2], ([1, 3], [3, 2, 0, 1]), ([1, 1], [1, 1, 0, 0]))

    def test_one_input(self):
        self.check(3, [5, 3], ([0, 1], [7, 3, 0, 4]), ([1, 1, 1, 1], [3, 3, 0, 0]))

    def test_four_sets(self):
        table = [0, 1, 2, 0, 4, 0, 0, 0, 1, 0, 0, 0, 0, 0, 0, 6]
        self.check(3, table, ([1, 2, 4, 8], [7, 6, 0, 1]), ([1, 2, 4], [7, 0, 0, 7]), ([8, 1, 8, 1], [1, 0, 0, 1]))

    def test_no_set(self):
        self.assertEqual(looked(2, SOME, ("apart", []), ("state",)), [[-22], [2, 2] + SOME])

    def test_other_inputs(self):
        for sets in ([4], [0, 4], [4, 0], [1, 2, 3, 4], [7, 1], [GREATEST], [GREATEST] * 4, [3, GREATEST], [8, 4]):
            with self.subTest(sets=sets):
                self.assertEqual(looked(2, SOME, ("apart", sets), ("state",)), [[-22], [2, 2] + SOME])

    def test_the_edge_of_each_size(self):
        for inputs in range(1, 5):
            count = 1 << inputs
            told = ask(("begin", inputs, 1), ("apart", [count - 1]), ("apart", [0, count]))
            self.assertEqual(told, [[0], [0, 0, 0, 0], [-22]])


if __name__ == "__main__":
    unittest.main()
