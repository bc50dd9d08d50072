"""The calls that change what's given: answer, table, behind, lift, sink."""

import unittest

from tests.helper import GREATEST, ask, ask_last, given_after

START = (("begin", 2, 2), ("table", [1, 2, 3, 0]))
STARTED = [1, 2, 3, 0]


class Refused(unittest.TestCase):
    def check_refused(self, call):
        with self.subTest(call):
            self.assertEqual(ask_last(*START, call), [-22])
            self.assertEqual(given_after(2, *START, call), STARTED)

    def test_answer(self):
        for call in (("answer", 4, 0), ("answer", 4, 1), ("answer", 0, 4), ("answer", 3, 5), ("answer", 4, 4),
                     ("answer", GREATEST, 1), ("answer", 1, GREATEST), ("answer", GREATEST, GREATEST)):
            self.check_refused(call)

    def test_table(self):
        for row in ([], [0], [0, 0, 0], [0] * 5, [0] * 8, [0] * 16, [4, 0, 0, 0], [0, 0, 0, 4], [0, GREATEST, 0, 0],
                    [4, 4, 4], [3, 3, 3, 3, 4]):
            self.check_refused(("table", row))

    def test_behind(self):
        for row in ([], [0], [0, 0, 0], [0] * 5, [0] * 8, [4, 0, 0, 0], [0, 0, 0, 4], [0, 0, GREATEST, 0],
                    [4, 4, 4], [3, 3, 3, 3, 4]):
            self.check_refused(("behind", row))

    def test_behind_is_refused_by_all_of_its_row(self):
        # What isn't looked up in the row is refused, too.
        calls = (("begin", 1, 1), ("behind", [0, 2]))
        self.assertEqual(ask_last(*calls), [-22])

    def test_table_has_a_number_for_each_set_of_inputs_not_of_answers(self):
        self.assertEqual(ask_last(("begin", 3, 1), ("table", [0, 1])), [-22])
        self.assertEqual(ask_last(("begin", 3, 1), ("table", [1] * 8)), [0])
        self.assertEqual(ask_last(("begin", 1, 3), ("table", [1] * 8)), [-22])
        self.assertEqual(ask_last(("begin", 1, 3), ("table", [7, 7])), [0])

    def test_behind_has_a_number_for_each_set_of_answers_not_of_inputs(self):
        self.assertEqual(ask_last(("begin", 3, 1), ("behind", [1] * 8)), [-22])
        self.assertEqual(ask_last(("begin", 3, 1), ("behind", [0, 1])), [0])
        self.assertEqual(ask_last(("begin", 1, 3), ("behind", [0, 1])), [-22])
        self.assertEqual(ask_last(("begin", 1, 3), ("behind", [7] * 8)), [0])


class Answer(unittest.TestCase):
    def test_what_was_is_answered(self):
        told = ask(("begin", 2, 2), ("answer", 3, 2), ("answer", 3, 1), ("answer", 3, 1), ("answer", 3, 0), ("at", 3))
        self.assertEqual(told, [[0], [0], [2], [1], [1], [0]])

    def test_only_that_set_is_changed(self):
        self.assertEqual(given_after(2, *START, ("answer", 1, 3)), [1, 3, 3, 0])

    def test_an_answer_of_no_inputs(self):
        self.assertEqual(given_after(2, ("begin", 2, 1), ("answer", 0, 1)), [1, 0, 0, 0])

    def test_the_greatest_sets(self):
        self.assertEqual(given_after(4, ("begin", 4, 3), ("answer", 15, 7)), [0] * 15 + [7])
        self.assertEqual(ask_last(("begin", 4, 3), ("answer", 15, 8)), [-22])
        self.assertEqual(ask_last(("begin", 4, 3), ("answer", 16, 7)), [-22])


class Table(unittest.TestCase):
    def test_these_are_given(self):
        self.assertEqual(ask_last(*START), [0])
        self.assertEqual(given_after(2, *START), STARTED)

    def test_one_input(self):
        self.assertEqual(given_after(1, ("begin", 1, 3), ("table", [5, 2])), [5, 2])

    def test_the_longest(self):
        row = [k % 8 for k in range(16)]
        self.assertEqual(given_after(4, ("begin", 4, 3), ("table", row)), row)
        self.assertEqual(ask_last(("begin", 4, 3), ("table", row[:15])), [-22])
        self.assertEqual(ask_last(("begin", 4, 3), ("table", row[:15] + [8])), [-22])

    def test_a_table_comes_in_the_place_of_what_was(self):
        self.assertEqual(given_after(2, *START, ("table", [0, 0, 0, 1])), [0, 0, 0, 1])

    def test_two_sets_do_not_hang_together(self):
        self.assertEqual(given_after(2, ("begin", 2, 2), ("answer", 1, 3)), [0, 3, 0, 0])


class Behind(unittest.TestCase):
    def test_it_turns_all_over(self):
        self.assertEqual(ask_last(*START, ("behind", [3, 2, 1, 0])), [0])
        self.assertEqual(given_after(2, *START, ("behind", [3, 2, 1, 0])), [2, 1, 0, 3])

    def test_turned_all_over_twice_it_is_what_was(self):
        turn = ("behind", [3, 2, 1, 0])
        self.assertEqual(given_after(2, *START, turn, turn), STARTED)

    def test_nothing_given_turned_all_over_is_all_given(self):
        self.assertEqual(given_after(2, ("begin", 2, 3), ("behind", [7, 6, 5, 4, 3, 2, 1, 0])), [7] * 4)

    def test_it_goes_by_what_was_not_step_by_step(self):
        self.assertEqual(given_after(2, *START, ("behind", [1, 2, 3, 0])), [2, 3, 0, 1])

    def test_one_that_stands_for_itself(self):
        self.assertEqual(given_after(2, *START, ("behind", [0, 1, 2, 3])), STARTED)

    def test_the_longest(self):
        row = [7, 0, 6, 1, 5, 2, 4, 3]
        table = [k % 8 for k in range(16)]
        told = given_after(4, ("begin", 4, 3), ("table", table), ("behind", row))
        self.assertEqual(told, [row[v] for v in table])
        self.assertEqual(ask_last(("begin", 4, 3), ("behind", row[:7])), [-22])
        self.assertEqual(ask_last(("begin", 4, 3), ("behind", row[:7] + [8])), [-22])


class LiftAndSink(unittest.TestCase):
    def check(self, name, before, after, changed):
        inputs = len(before).bit_length() - 1
        calls = (("begin", inputs, 3), ("table", before), (name,))
        self.assertEqual(ask_last(*calls), [changed])
        self.assertEqual(given_after(inputs, *calls), after)
        self.assertEqual(ask_last(*calls, (name,)), [0])
        self.assertEqual(given_after(inputs, *calls, (name,)), after)
        self.assertEqual(ask_last(*calls, ("grows",)), [1])

    def test_nothing_given(self):
        self.check("lift", [0] * 8, [0] * 8, 0)
        self.check("sink", [0] * 8, [0] * 8, 0)

    def test_all_given(self):
        self.check("lift", [7] * 16, [7] * 16, 0)
        self.check("sink", [7] * 16, [7] * 16, 0)

    def test_an_answer_of_no_inputs(self):
        self.check("lift", [1, 0, 0, 0], [1, 1, 1, 1], 3)
        self.check("sink", [1, 0, 0, 0], [0, 0, 0, 0], 1)

    def test_one_that_needs_two_inputs(self):
        self.check("lift", [0, 0, 0, 1], [0, 0, 0, 1], 0)
        self.check("sink", [0, 0, 0, 1], [0, 0, 0, 1], 0)
        self.check("lift", [0, 0, 0, 1, 0, 0, 0, 0], [0, 0, 0, 1, 0, 0, 0, 1], 1)
        self.check("sink", [0, 0, 0, 1, 0, 0, 0, 0], [0] * 8, 1)

    def test_one_that_is_given_as_long_as_some_input_is_not_there(self):
        self.check("lift", [1, 0, 1, 0], [1, 1, 1, 1], 2)
        self.check("sink", [1, 0, 1, 0], [0, 0, 0, 0], 2)
        self.check("lift", [0, 0, 1, 0], [0, 0, 1, 1], 1)

    def test_one_input(self):
        self.check("lift", [5, 2], [5, 7], 1)
        self.check("sink", [5, 2], [0, 2], 1)
        self.check("sink", [3, 6], [2, 6], 1)

    def test_several_answers_at_once(self):
        self.check("lift", [1, 2, 4, 0], [1, 3, 5, 7], 3)
        self.check("sink", [7, 3, 6, 3], [2, 3, 2, 3], 2)

    def test_a_set_is_counted_once_whatever_changes_in_it(self):
        self.check("lift", [7, 0], [7, 7], 1)
        self.check("sink", [7, 0], [0, 0], 1)

    def test_four_inputs(self):
        self.check("lift", [0, 1] + [0] * 14, [0, 1] * 8, 7)
        self.check("sink", [1] * 15 + [0], [0] * 16, 15)
        self.check("sink", [1] * 7 + [0] + [1] * 8, [0] * 8 + [1] * 8, 7)

    def test_what_is_lifted_is_not_sunk_any_more_and_the_other_way_round(self):
        lifted = (*START, ("lift",), ("sink",))
        self.assertEqual(ask_last(*lifted), [0])
        self.assertEqual(given_after(2, *lifted), [1, 3, 3, 3])
        sunk = (*START, ("sink",), ("lift",))
        self.assertEqual(ask_last(*sunk), [0])
        self.assertEqual(given_after(2, *sunk), [0, 0, 0, 0])


if __name__ == "__main__":
    unittest.main()
