"""The calls on what's known and what's sealed: sure, may, waits."""

import unittest

from tests.helper import GREATEST, ask, ask_last, looked

# Answer 0 goes with input 1, answer 1 is always given, answer 2 goes with input 0.
THREE = [7, 3, 6, 2]
# Given as long as input 0 isn't there.
AS_LONG_AS = [1, 0, 1, 0]
NEEDS_TWO = [0, 0, 0, 1]


class Sure(unittest.TestCase):
    def check(self, answer_count, table, *rows):
        """Each row: what's known, what's sealed, what's sure, what may be."""
        for x, z, sure, may in rows:
            with self.subTest(table=table, x=x, z=z):
                self.assertEqual(looked(answer_count, table, ("sure", x, z), ("may", x, z)), [[sure], [may]])

    def test_several_answers(self):
        self.check(3, THREE, (0, 0, 2, 7), (0, 1, 6, 7), (0, 2, 3, 7), (0, 3, 7, 7), (1, 0, 2, 3), (1, 2, 3, 3),
                   (2, 0, 2, 6), (2, 1, 6, 6), (3, 0, 2, 2))

    def test_nothing_given(self):
        self.check(3, [0] * 16, (0, 0, 0, 0), (15, 0, 0, 0), (0, 15, 0, 0), (3, 4, 0, 0))

    def test_all_given(self):
        self.check(3, [7] * 16, (0, 0, 7, 7), (15, 0, 7, 7), (0, 15, 7, 7), (3, 4, 7, 7))

    def test_an_answer_of_no_inputs(self):
        self.check(1, [1, 0, 0, 0], (0, 0, 0, 1), (0, 1, 0, 1), (0, 2, 0, 1), (0, 3, 1, 1), (1, 0, 0, 0), (2, 1, 0, 0))

    def test_one_that_needs_two_inputs(self):
        self.check(1, NEEDS_TWO, (0, 0, 0, 1), (1, 0, 0, 1), (2, 0, 0, 1), (3, 0, 1, 1), (0, 1, 0, 0), (0, 2, 0, 0),
                   (1, 2, 0, 0))

    def test_one_that_is_given_as_long_as_some_input_is_not_there(self):
        self.check(1, AS_LONG_AS, (0, 0, 0, 1), (0, 1, 1, 1), (0, 2, 0, 1), (2, 0, 0, 1), (2, 1, 1, 1), (1, 0, 0, 0),
                   (3, 0, 0, 0))

    def test_one_input(self):
        self.check(3, [5, 3], (0, 0, 1, 7), (1, 0, 3, 3), (0, 1, 5, 5))

    def test_what_lies_between_counts(self):
        # Given of the least and of the greatest set, not of those between.
        self.check(1, [1, 0, 0, 1], (0, 0, 0, 1))
        # And the other way round.
        self.check(1, [0, 1, 0, 0], (0, 0, 0, 1))

    def test_four_inputs(self):
        table = [k % 8 for k in range(16)]
        self.check(3, table, (7, 0, 7, 7), (8, 0, 0, 7), (9, 2, 1, 5), (6, 9, 6, 6), (0, 7, 0, 0), (0, 8, 0, 7),
                   (15, 0, 7, 7), (0, 15, 0, 0))

    def test_behind_other_calls(self):
        turned = looked(1, NEEDS_TWO, ("behind", [1, 0]), ("sure", 0, 1), ("sure", 0, 0), ("may", 3, 0))
        self.assertEqual(turned, [[0], [1], [0], [0]])
        lifted = looked(1, AS_LONG_AS, ("lift",), ("lift",), ("sure", 0, 0), ("may", 3, 0))
        self.assertEqual(lifted, [[2], [0], [1], [1]])

    def test_refused(self):
        wrong = [(4, 0), (0, 4), (4, 4), (4, 8), (7, 0), (0, 5), (GREATEST, 0), (0, GREATEST), (GREATEST, GREATEST),
                 (GREATEST, 1 << 30), (1 << 30, 0), (1, 1), (2, 2), (3, 1), (2, 3), (3, 3)]
        for x, z in wrong:
            for name in ("sure", "may"):
                with self.subTest(name=name, x=x, z=z):
                    told = looked(3, THREE, (name, x, z), ("state",))
                    self.assertEqual(told, [[-22], [2, 3] + THREE])

    def test_the_edge_of_each_size(self):
        for inputs in range(1, 5):
            count = 1 << inputs
            for name in ("sure", "may"):
                with self.subTest(name=name, inputs=inputs):
                    told = ask(("begin", inputs, 1), (name, count - 1, 0), (name, count, 0), (name, 0, count - 1),
                               (name, 0, count), (name, count - 1, 1))
                    self.assertEqual(told, [[0], [0], [-22], [0], [-22], [-22]])


class Waits(unittest.TestCase):
    def check(self, answer_count, table, *rows):
        """Each row: what's known, the answer, what's answered."""
        for x, o, expected in rows:
            with self.subTest(table=table, x=x, o=o):
                self.assertEqual(looked(answer_count, table, ("waits", x, o)), [expected])

    def test_several_answers(self):
        self.check(3, THREE, (0, 0, [1, 2]), (0, 1, [0, 0]), (0, 2, [1, 1]), (1, 0, [1, 2]), (2, 2, [1, 1]),
                   (3, 1, [0, 0]), (1, 2, [-33]), (2, 0, [-33]), (3, 0, [-33]))

    def test_nothing_given(self):
        self.check(3, [0] * 16, (0, 0, [-33]), (15, 2, [-33]))

    def test_all_given(self):
        self.check(3, [7] * 16, (0, 0, [0, 0]), (15, 2, [0, 0]), (6, 1, [0, 0]))

    def test_an_answer_of_no_inputs(self):
        self.check(1, [1, 0], (0, 0, [1, 1]))
        self.check(1, [1, 0, 0, 0], (0, 0, [2, 3]), (1, 0, [-33]))
        self.check(1, [1] + [0] * 15, (0, 0, [4, 15]))

    def test_one_that_needs_two_inputs(self):
        self.check(1, NEEDS_TWO, (3, 0, [0, 0]), (0, 0, [-33]), (1, 0, [-33]), (2, 0, [-33]))

    def test_one_that_is_given_as_long_as_some_input_is_not_there(self):
        self.check(1, AS_LONG_AS, (0, 0, [1, 1]), (2, 0, [1, 1]), (1, 0, [-33]), (3, 0, [-33]))

    def test_fewer_come_ahead_of_a_lesser_number(self):
        # 0 and 1 sealed (3) would be enough, too.
        self.check(1, [1, 1, 1, 1, 1, 0, 0, 0], (0, 0, [1, 4]), (1, 0, [1, 4]), (3, 0, [1, 4]), (4, 0, [2, 3]))

    def test_of_as_many_the_least_number(self):
        self.check(1, [1, 1, 1, 0, 1, 1, 1, 0], (0, 0, [1, 1]), (1, 0, [1, 2]), (2, 0, [1, 1]), (4, 0, [1, 1]))
        self.check(1, [1, 1, 1, 1, 1, 1, 0, 0], (0, 0, [1, 2]), (2, 0, [1, 4]), (4, 0, [1, 2]), (5, 0, [1, 2]))
        self.check(1, [1] * 7 + [0], (0, 0, [1, 1]), (1, 0, [1, 2]), (3, 0, [1, 4]), (6, 0, [1, 1]))

    def test_two_of_three(self):
        # Given of none and of one input: two of three have to be sealed.
        self.check(1, [1, 1, 1, 0, 1, 0, 0, 0], (0, 0, [2, 3]), (1, 0, [2, 6]), (2, 0, [2, 5]), (4, 0, [2, 3]))

    def test_one_that_goes_and_comes_again(self):
        self.check(1, [1, 0, 0, 1], (0, 0, [2, 3]), (3, 0, [0, 0]))

    def test_four_inputs(self):
        self.check(3, [4] * 8 + [0] * 8, (0, 2, [1, 8]), (7, 2, [1, 8]), (8, 2, [-33]))

    def test_no_such_answer_comes_first(self):
        for x in (0, 1, 3, 4, GREATEST):
            for o in (3, 4, 31, 32, 64, GREATEST):
                with self.subTest(x=x, o=o):
                    self.assertEqual(looked(3, THREE, ("waits", x, o), ("state",)), [[-2], [2, 3] + THREE])
        self.assertEqual(ask_last(("begin", 4, 1), ("waits", 0, 1)), [-2])
        self.assertEqual(ask_last(("begin", 4, 2), ("waits", 16, 2)), [-2])

    def test_other_inputs_come_second(self):
        for x in (4, 5, 8, 1 << 30, GREATEST):
            for o in (0, 1, 2):
                with self.subTest(x=x, o=o):
                    self.assertEqual(looked(3, THREE, ("waits", x, o), ("state",)), [[-22], [2, 3] + THREE])

    def test_not_given_changes_nothing(self):
        self.assertEqual(looked(3, THREE, ("waits", 3, 0), ("state",)), [[-33], [2, 3] + THREE])


if __name__ == "__main__":
    unittest.main()
