"""A line of calls: how it's handed in, how it's answered, and what holds ahead of a begin."""

import unittest

from growinganswers import book
from tests.helper import GREATEST, SHAPES, answers, ask, ask_last, encode_all, given_after


def any_call(name):
    number, count, has_row = SHAPES[name]
    if has_row:
        return (name, [0, 1])
    return (name,) + (0,) * count


class TheForm(unittest.TestCase):
    def test_the_function_is_where_it_was_told(self):
        self.assertEqual(book.answers([0, 1, 1]), [1, 0])

    def test_each_answer_has_its_count_before_it(self):
        line = [0, 2, 2, 1, 0, 3, 7, 8, 9, 10, 8, 11, 1, 6, 0]
        self.assertEqual(answers(line), [1, 0, 1, 0, 1, 0, 3, 0, 1, 3, 1, 0, 2, 0, 1, 3, 0, 1, 3, 1, 0, 1, 3])

    def test_each_answer_of_the_calls_12_to_23_has_its_count_before_it(self):
        begun = [0, 2, 2, 2, 4, 1, 2, 3, 0]
        for line, told in (
            ([12, 0, 1], [1, 1]), ([13, 1, 2], [1, 2]), ([14, 2, 1], [2, 1, 1]), ([14, 0, 0], [2, 1, 1]),
            ([15, 2, 1, 0], [4, 3, 1, 3, 0]), ([15, 0], [2, 1, 1]), ([16, 2, 0, 1], [1, 3]), ([16, 0], [1, 0]),
            ([17, 1], [1, 1]), ([18, 2, 1, 2], [4, 3, 0, 0, 3]), ([19, 1], [3, 2, 1, 2]), ([19, 0], [2, 1, 0]),
            ([20], [5, 4, 1, 3, 3, 3]), ([21], [5, 4, 0, 0, 0, 0]), ([22], [1, 2]), ([23], [6, 2, 2, 1, 2, 3, 0]),
        ):
            with self.subTest(line):
                self.assertEqual(answers(begun + line), [1, 0, 1, 0] + told)

    def test_the_calls_12_to_23_one_behind_another(self):
        line = [0, 2, 2, 2, 4, 1, 2, 3, 0]
        line += [12, 0, 1, 13, 1, 2, 14, 2, 1, 15, 2, 1, 0, 16, 2, 0, 1, 17, 1, 18, 2, 1, 2, 19, 1, 20, 21, 22, 23]
        told = [1, 0, 1, 0]
        told += [1, 1, 1, 2, 2, 1, 1, 4, 3, 1, 3, 0, 1, 3, 1, 1, 4, 3, 0, 0, 3, 3, 2, 1, 2, 5, 4, 1, 3, 3, 3]
        told += [5, 4, 0, 0, 0, 0, 1, 2, 6, 2, 2, 1, 2, 3, 0]
        self.assertEqual(answers(line), told)

    def test_the_longest_and_the_shortest_answers(self):
        self.assertEqual(answers([0, 4, 3, 20, 21, 23]),
                         [1, 0, 17, 16] + [0] * 16 + [17, 16] + [0] * 16 + [18, 4, 3] + [0] * 16)
        self.assertEqual(answers([0, 1, 1, 20, 21, 23, 19, 0]),
                         [1, 0, 3, 2, 0, 0, 3, 2, 0, 0, 4, 1, 1, 0, 0, 1, 0])

    def test_refusals_of_the_calls_12_to_23(self):
        line = [0, 1, 1, 12, 2, 0, 13, 1, 1, 14, 2, 1, 14, 2, 0, 14, 0, 0, 15, 1, 1, 16, 2, 0, 0, 17, 2, 18, 0, 19, 1]
        self.assertEqual(answers(line), [1, 0] + [1, -22] * 2 + [1, -2, 1, -22, 1, -33] + [1, -22] * 4 + [1, -2])

    def test_an_empty_row_of_the_calls_12_to_23_does_not_swallow_the_next_call(self):
        self.assertEqual(answers([0, 1, 1, 15, 0, 16, 0, 18, 0, 22]), [1, 0, 2, 1, 0, 1, 0, 1, -22, 1, 0])

    def test_a_refusal_is_its_number_alone(self):
        self.assertEqual(answers([0, 1, 1, 8, 10, 6, 2, 11, 1]), [1, 0, 1, -33, 1, -33, 1, -22, 1, -2])

    def test_rows_have_their_length_before_them(self):
        line = [0, 2, 2, 2, 4, 0, 1, 2, 3, 3, 4, 3, 2, 1, 0, 6, 0, 6, 1, 6, 2, 6, 3]
        self.assertEqual(answers(line), [1, 0, 1, 0, 1, 0, 1, 3, 1, 2, 1, 1, 1, 0])

    def test_an_empty_row_does_not_swallow_the_next_call(self):
        self.assertEqual(answers([0, 1, 1, 2, 0, 7, 3, 0, 9]), [1, 0, 1, -22, 1, 1, 1, -22, 1, 1])

    def test_one_call(self):
        self.assertEqual(answers([4]), [1, -61])

    def test_sixty_calls(self):
        line = [("begin", 4, 3)] + [("answer", k % 16, k % 8) for k in range(58)] + [("at", 9)]
        told = ask(*line)
        self.assertEqual(len(told), 60)
        self.assertEqual(told[-1], [1])

    def test_the_longest_line(self):
        line = [("begin", 4, 3)] + [("table", [k % 8] * 16) for k in range(59)]
        self.assertEqual(ask(*line), [[0]] * 60)

    def test_whole_numbers_are_int_alone(self):
        line = [("begin", 2, 2), ("grows",), ("adds",), ("grows_one", 0), ("answer", 0, 1), ("grows",), ("adds",),
                ("grows_one", 0), ("sure", 0, 3), ("may", 0, 0), ("waits", 0, 0), ("told", [0, 1]), ("wrong", [1]),
                ("worst", 3), ("apart", [0, 1]), ("least", 0), ("least", 1), ("up",), ("down",), ("grade",),
                ("state",), ("shrinks",), ("parts",), ("lift",), ("sink",), ("grade",), ("at", 3), ("shrinks",)]
        for number in answers(encode_all(line)):
            self.assertIs(type(number), int)

    def test_a_list_is_given_back(self):
        self.assertIs(type(answers([7])), list)


class NothingChangedOrKept(unittest.TestCase):
    LINE = [("begin", 2, 2), ("table", [3, 1, 2, 0]), ("answer", 1, 2), ("behind", [3, 2, 1, 0]), ("lift",), ("sink",),
            ("at", 1), ("grows",), ("shrinks",), ("adds",), ("parts",), ("grows_one", 1), ("table", [1]),
            ("answer", 9, 9), ("table", [3, 1, 2, 0]), ("sure", 0, 1), ("may", 1, 0), ("waits", 0, 1),
            ("told", [1, 0]), ("wrong", [0, 1]), ("worst", 3), ("apart", [1, 2, 3]), ("least", 1), ("up",), ("down",),
            ("grade",), ("state",), ("told", [2]), ("wrong", [0, 0]), ("apart", []), ("sure", 1, 1), ("waits", 3, 0)]

    def test_what_is_handed_in_is_the_same_afterwards(self):
        line = encode_all(self.LINE)
        before = list(line)
        answers(line)
        self.assertEqual(line, before)

    def test_what_is_handed_in_is_not_changed_for_a_while_either(self):
        class Watched(list):
            def refuse(self, *words, **others):
                raise AssertionError("the list was changed")

            __setitem__ = __delitem__ = __iadd__ = __imul__ = refuse
            append = extend = insert = pop = remove = clear = sort = reverse = refuse

        line = encode_all(self.LINE)
        self.assertEqual(answers(Watched(line)), answers(line))

    def test_a_table_is_not_the_row_that_was_handed_in(self):
        line = encode_all([("begin", 1, 1), ("table", [1, 1]), ("answer", 0, 0), ("at", 0)])
        answers(line)
        self.assertEqual(line, [0, 1, 1, 2, 2, 1, 1, 1, 0, 0, 6, 0])

    def test_nothing_is_kept_from_one_time_to_the_next(self):
        first = ask(*self.LINE)
        self.assertEqual(ask(("at", 0)), [[-61]])
        self.assertEqual(ask(*self.LINE), first)

    def test_each_call_of_the_line_is_answered_as_alone(self):
        # What one call looks up isn't kept for the next.
        begun = [("begin", 2, 2), ("table", [3, 1, 2, 0])]
        looks = self.LINE[self.LINE.index(("sure", 0, 1)):]
        together = ask(*begun, *looks)[2:]
        self.assertEqual(together, [ask_last(*begun, call) for call in looks])
        self.assertEqual(ask(*begun, *reversed(looks))[2:], list(reversed(together)))

    def test_what_was_given_back_may_be_changed(self):
        said = answers([0, 1, 1, 8])
        said[1] = 99
        self.assertEqual(answers([0, 1, 1, 8]), [1, 0, 1, -33])


class AheadOfABegin(unittest.TestCase):
    def test_every_other_call_is_answered_minus_61(self):
        for name in SHAPES:
            if name != "begin":
                with self.subTest(name):
                    self.assertEqual(ask(any_call(name), ("begin", 1, 1), ("at", 0)), [[-61], [0], [0]])

    def test_behind_a_begin_that_is_refused(self):
        for name in SHAPES:
            if name != "begin":
                with self.subTest(name):
                    self.assertEqual(ask(("begin", 5, 1), any_call(name)), [[-22], [-61]])

    def test_minus_61_comes_ahead_of_other_refusals(self):
        line = [("answer", 16, 8), ("table", []), ("behind", [9]), ("at", GREATEST), ("grows_one", 3),
                ("shrinks",), ("parts",), ("sure", 16, 0), ("sure", 1, 1), ("may", 0, GREATEST), ("waits", 16, 3),
                ("waits", 0, GREATEST), ("told", [4]), ("told", [0, 0]), ("wrong", [GREATEST]), ("worst", 16),
                ("apart", []), ("apart", [16]), ("least", 3), ("least", GREATEST)]
        self.assertEqual(ask(*line), [[-61]] * len(line))

    def test_what_was_refused_is_not_there_after_the_begin(self):
        told = given_after(1, ("answer", 0, 1), ("table", [1, 1]), ("begin", 1, 1))
        self.assertEqual(told, [0, 0])

    def test_all_calls_in_a_row_are_told_apart(self):
        line = [any_call(name) for name in SHAPES if name != "begin"]
        self.assertEqual(ask(*line), [[-61]] * 23)

    def test_rows_of_each_length_are_passed_over(self):
        for name, most in (("table", 16), ("behind", 8), ("told", 4), ("wrong", 4), ("apart", 4)):
            for length in range(most + 1):
                with self.subTest(name=name, length=length):
                    self.assertEqual(ask((name, [0] * length), ("begin", 1, 1)), [[-61], [0]])


class Begin(unittest.TestCase):
    def test_each_size(self):
        for inputs in range(1, 5):
            for answer_count in range(1, 4):
                with self.subTest(inputs=inputs, answers=answer_count):
                    greatest = (1 << inputs) - 1
                    every = (1 << answer_count) - 1
                    self.assertEqual(
                        ask(("begin", inputs, answer_count), ("at", greatest), ("at", greatest + 1),
                            ("answer", greatest, every), ("answer", greatest, every + 1), ("at", greatest),
                            ("grows_one", answer_count - 1), ("grows_one", answer_count)),
                        [[0], [0], [-22], [0], [-22], [every], [1], [-2]])

    def test_nothing_is_given_of_any_set(self):
        self.assertEqual(given_after(4, ("begin", 4, 3)), [0] * 16)

    def test_wrong_sizes(self):
        wrong = [(0, 1), (5, 1), (1, 0), (1, 4), (0, 0), (5, 4), (4, 4), (5, 3), (0, 3), (4, 0),
                 (GREATEST, 1), (1, GREATEST), (GREATEST, GREATEST), (16, 3), (4, 8)]
        for inputs, answer_count in wrong:
            with self.subTest(inputs=inputs, answers=answer_count):
                self.assertEqual(ask(("begin", inputs, answer_count), ("at", 0)), [[-22], [-61]])

    def test_a_begin_that_comes_again_begins_anew(self):
        told = ask(("begin", 2, 2), ("table", [3, 3, 3, 3]), ("begin", 2, 2), ("at", 0), ("at", 3))
        self.assertEqual(told, [[0], [0], [0], [0], [0]])

    def test_a_begin_that_comes_again_with_other_sizes(self):
        told = ask(("begin", 1, 3), ("answer", 1, 7), ("begin", 3, 1), ("at", 7), ("at", 8), ("answer", 7, 2),
                   ("answer", 7, 1), ("grows_one", 1), ("begin", 1, 2), ("at", 2), ("at", 1), ("answer", 1, 3))
        self.assertEqual(told, [[0], [0], [0], [0], [-22], [-22], [0], [-2], [0], [-22], [0], [0]])

    def test_a_refused_begin_keeps_what_was_begun(self):
        for wrong in (("begin", 0, 2), ("begin", 5, 1), ("begin", 1, 0), ("begin", 1, 4)):
            with self.subTest(wrong):
                told = given_after(2, ("begin", 2, 2), ("table", [0, 1, 2, 3]), wrong)
                self.assertEqual(told, [0, 1, 2, 3])
                self.assertEqual(ask_last(("begin", 2, 2), wrong, ("at", 4)), [-22])
                self.assertEqual(ask_last(("begin", 2, 2), wrong, ("answer", 0, 3)), [0])
                self.assertEqual(ask_last(("begin", 2, 2), wrong, ("grows_one", 1)), [1])
                self.assertEqual(ask_last(("begin", 2, 2), wrong, ("grows_one", 2)), [-2])


if __name__ == "__main__":
    unittest.main()
