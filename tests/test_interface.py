"""The interface, and the run that the document tells, as far as its calls are built."""

import unittest

from saykept.desk import answers
from helper import BEGIN, COUNT, WRITE, ask, get, note, read, split, written


class InterfaceTest(unittest.TestCase):
    def test_no_calls_no_answers(self):
        self.assertEqual(answers([]), [])

    def test_each_answer_has_its_count_ahead(self):
        calls = BEGIN + note("ka", "K") + COUNT + get(0) + get(1) + WRITE + read("x")
        self.assertEqual(
            answers(calls),
            [1, 0]
            + [1, 1]
            + [2, 1, 1]
            + [8, 0, 1, 1, 2, 107, 97, 1, 75]
            + [1, -4]
            + [12, 11, 49, 10, 107, 97, 32, 75, 32, 49, 32, 49, 10]
            + [3, -2, 0, 1],
        )

    def test_object_is_new_at_the_lists_beginning(self):
        self.assertEqual(ask(COUNT, WRITE, get(0)), [[0, 0], written("0\n"), [-4]])

    def test_nothing_is_kept_from_one_time_to_the_next(self):
        calls = note("ka", "K") + read("7\nb B 7 2\n") + note("b", "B") + WRITE
        first = answers(list(calls))
        self.assertEqual(answers([4]), [2, 0, 0])
        self.assertEqual(answers(list(calls)), first)

    def test_what_is_handed_in_is_not_changed(self):
        calls = note("ka", "K") + read("5\nb B 2 1\na A 3 1\n") + note("b", "B") + WRITE + get(0) + read("x")
        before = list(calls)
        answers(calls)
        self.assertEqual(calls, before)

    def test_what_is_given_back_belongs_to_the_caller(self):
        calls = note("ka", "K") + get(0) + WRITE
        first = answers(calls)
        expected = list(first)
        first.clear()
        self.assertEqual(answers(calls), expected)

    def test_answers_are_a_list_of_whole_numbers(self):
        told = answers(note("ka", "K") + COUNT + get(0) + WRITE + read("") + BEGIN)
        self.assertIs(type(told), list)
        self.assertEqual({type(number) for number in told}, {int})

    def test_a_thousand_calls(self):
        told = split(answers(note("ka", "K") * 999 + COUNT))
        self.assertEqual(told, [[number] for number in range(1, 1000)] + [[1, 999]])

    def test_refused_calls_take_their_arguments_all_the_same(self):
        calls = [note("a" * 33, "b" * 40), note("", ""), note([32], "b"), read("9"), get(0), COUNT]
        self.assertEqual(ask(*calls), [[-1], [-3], [-3], [-2, 0, 1], [-4], [0, 0]])


class RunTest(unittest.TestCase):
    def test_first_part_of_the_run(self):
        notes = [note("ka", "K"), note("ka", "Q"), note("kan", "N"), note("ka", "K")]
        self.assertEqual(
            ask(*notes, COUNT, get(0), get(1), get(2), get(3), WRITE),
            [
                [1], [1], [1], [2],
                [3, 4],
                [0, 4, 2, 2, 107, 97, 1, 75],
                [0, 3, 1, 3, 107, 97, 110, 1, 78],
                [0, 2, 1, 2, 107, 97, 1, 81],
                [-4],
                written("4\nka K 4 2\nkan N 3 1\nka Q 2 1\n"),
            ],
        )

    def test_a_text_of_the_runs_end_is_read_and_written(self):
        text = "5\nb B 5 2\nka K 4 2\nka Q 3 5\nkan N 3 1\n"
        self.assertEqual(ask(read(text), COUNT, WRITE), [[4], [4, 5], written(text)])


if __name__ == "__main__":
    unittest.main()
