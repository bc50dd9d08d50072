"""The calls that look at the table as a whole: at, grows, shrinks, adds, parts, grows_one."""

import unittest

from tests.helper import GREATEST, ask_last, given_after, looked

QUESTIONS = (("grows",), ("shrinks",), ("adds",), ("parts",))


class At(unittest.TestCase):
    def test_each_set(self):
        row = [k * 5 % 8 for k in range(16)]
        told = looked(3, row, *[("at", x) for x in range(16)])
        self.assertEqual(told, [[v] for v in row])

    def test_other_inputs(self):
        for inputs in range(1, 5):
            for x in ((1 << inputs), (1 << inputs) + 1, 1 << 30, GREATEST):
                with self.subTest(inputs=inputs, x=x):
                    self.assertEqual(ask_last(("begin", inputs, 1), ("at", x)), [-22])


class WholeTables(unittest.TestCase):
    def check(self, answer_count, table, grows, shrinks, adds, parts):
        self.assertEqual(looked(answer_count, table, *QUESTIONS), [[grows], shrinks, [adds], parts])

    def test_nothing_given(self):
        for inputs in range(1, 5):
            self.check(3, [0] * (1 << inputs), 1, [-33], 1, [-33])

    def test_all_given(self):
        for inputs in range(1, 5):
            self.check(3, [7] * (1 << inputs), 1, [-33], 1, [-33])

    def test_an_answer_of_no_inputs(self):
        self.check(1, [1, 0, 0, 0], 0, [0, 1, 1], 0, [0, 1])
        self.check(2, [2, 3, 2, 3], 1, [-33], 1, [-33])

    def test_one_that_needs_two_inputs(self):
        self.check(1, [0, 0, 0, 1], 1, [-33], 0, [1, 2])
        self.check(1, [0, 0, 0, 0, 0, 0, 1, 1], 1, [-33], 0, [2, 4])
        self.check(1, [0, 0, 0, 0, 0, 1, 0, 1], 1, [-33], 0, [1, 4])

    def test_one_that_is_given_as_long_as_some_input_is_not_there(self):
        self.check(1, [1, 0, 1, 0], 0, [0, 1, 1], 0, [0, 1])
        self.check(1, [1, 1, 0, 0], 0, [0, 2, 1], 0, [0, 2])
        self.check(1, [0, 1, 0, 0], 0, [1, 3, 1], 0, [1, 2])
        self.check(1, [0, 0, 1, 0], 0, [2, 3, 1], 0, [1, 2])

    def test_one_input(self):
        self.check(1, [0, 1], 1, [-33], 1, [-33])
        self.check(1, [1, 1], 1, [-33], 1, [-33])
        self.check(1, [1, 0], 0, [0, 1, 1], 0, [0, 1])
        self.check(3, [5, 2], 0, [0, 1, 5], 0, [0, 1])

    def test_each_answer_of_one_input_alone(self):
        self.check(2, [0, 1, 2, 3], 1, [-33], 1, [-33])
        self.check(3, [0, 1, 2, 3, 4, 5, 6, 7], 1, [-33], 1, [-33])

    def test_what_is_given_no_more_is_only_what_is_lost(self):
        self.check(3, [3, 6, 7, 7], 0, [0, 1, 1], 0, [0, 1])
        self.check(3, [0, 7, 0, 5], 0, [1, 3, 2], 0, [1, 2])

    def test_the_first_set_comes_ahead_of_the_first_second(self):
        # 0 loses something only up to 7; 1 loses already up to 3.
        self.check(2, [1, 3, 1, 1, 1, 1, 1, 0], 0, [0, 7, 1], 0, [0, 7])

    def test_the_second_has_all_of_the_first(self):
        # 1 and 2 differ, but neither has all of the other.
        self.check(2, [0, 1, 2, 3], 1, [-33], 1, [-33])
        self.check(2, [0, 3, 0, 3], 1, [-33], 1, [-33])

    def test_together_less_or_more_is_given(self):
        self.check(2, [0, 1, 2, 1], 0, [2, 3, 2], 0, [1, 2])
        self.check(3, [0, 1, 2, 7], 1, [-33], 0, [1, 2])

    def test_the_last_of_four_inputs(self):
        self.check(3, [0] * 15 + [4], 1, [-33], 0, [1, 14])
        self.check(3, [0] * 14 + [4, 0], 0, [14, 15, 4], 0, [1, 14])

    def test_looking_changes_nothing(self):
        table = [3, 1, 0, 2]
        ones = (("grows_one", 0), ("grows_one", 2), ("at", 1), ("at", 4))
        calls = (("begin", 2, 2), ("table", table)) + QUESTIONS + ones
        self.assertEqual(given_after(2, *calls), table)
        self.assertEqual(ask_last(*calls, ("lift",)), [3])

    def test_lifted_and_sunk(self):
        self.assertEqual(looked(2, [1, 2, 0, 0], ("lift",), *QUESTIONS), [[3], [1], [-33], [1], [-33]])
        self.assertEqual(looked(2, [1, 2, 2, 3], ("sink",), *QUESTIONS), [[1], [1], [-33], [0], [1, 2]])

    def test_turned_all_over(self):
        self.assertEqual(looked(1, [0, 0, 0, 1], ("behind", [1, 0]), *QUESTIONS), [[0], [0], [0, 3, 1], [0], [0, 3]])


class GrowsOne(unittest.TestCase):
    def test_of_each_answer_alone(self):
        # Answer 0 goes with input 0, answer 1 grows, answer 2 is never given.
        told = looked(3, [1, 2, 1, 2], ("grows",), ("grows_one", 0), ("grows_one", 1), ("grows_one", 2))
        self.assertEqual(told, [[0], [0], [1], [1]])

    def test_the_last_answer(self):
        told = looked(3, [7, 3], ("grows_one", 0), ("grows_one", 1), ("grows_one", 2))
        self.assertEqual(told, [[1], [1], [0]])

    def test_there_is_none_such(self):
        for answer_count in range(1, 4):
            for o in (answer_count, answer_count + 1, 31, 32, 64, GREATEST):
                with self.subTest(answers=answer_count, o=o):
                    self.assertEqual(ask_last(("begin", 4, answer_count), ("grows_one", o)), [-2])
            self.assertEqual(ask_last(("begin", 4, answer_count), ("grows_one", answer_count - 1)), [1])

    def test_a_refusal_changes_nothing(self):
        calls = (("begin", 2, 2), ("table", [3, 1, 0, 2]), ("grows_one", 2), ("grows_one", GREATEST))
        self.assertEqual(given_after(2, *calls), [3, 1, 0, 2])


if __name__ == "__main__":
    unittest.main()
