"""The interface, and the run that the document tells."""

import contextlib
import io
import random
import unittest

from saykept.desk import answers
from helper import (
    BEGIN, CALLS, COUNT, LAST_MOMENT, NOT_REMEMBERED, WRITE,
    ask, cost, draw_calls, forget, get, goes, join, note, of, read, row, split, written,
)

# Calls of each number, some of them refused.
ALL = [
    note("ka", "K"), read("5\nb B 2 1\na A 3 1\n"), note("b", "B"), WRITE, get(0), get(9), COUNT,
    forget("a", "A"), forget("a", "A"), of(0, "b"), of(1, "b"), goes(0, ""), goes(0, [0xD800]),
    cost(9, "b", "B"), cost(65536, "b", "B"), join("9\nz Z 9 1\na A 1 1\nb B 7 1\n"), join("x"), read(""), WRITE, BEGIN,
]


def in_a_list(calls):
    return [number for call in calls for number in call]


class InterfaceTest(unittest.TestCase):
    def test_no_calls_no_answers(self):
        self.assertEqual(answers([]), [])

    def test_each_answer_has_its_count_ahead(self):
        calls = BEGIN + note("ka", "K") + COUNT + get(0) + get(1) + WRITE + read("x")
        self.assertEqual(
            answers(calls),
            [1, 0]
            + [1, 1]
            + [2, 1, 1]
            + [8, 0, 1, 1, 2, 107, 97, 1, 75]
            + [1, -4]
            + [12, 11, 49, 10, 107, 97, 32, 75, 32, 49, 32, 49, 10]
            + [3, -2, 0, 1],
        )

    def test_calls_7_to_11_as_numbers(self):
        # note a A; of 0 a; goes 0 (empty); cost 8 a A; join "2\nb B 2 1\n"; join ""; forget b B; forget b B; of 0 b
        calls = [6, 1, 97, 1, 65, 8, 0, 1, 97, 9, 0, 0, 10, 8, 1, 97, 1, 65]
        calls += [11, 10, 50, 10, 98, 32, 66, 32, 50, 32, 49, 10, 11, 0]
        calls += [7, 1, 98, 1, 66, 7, 1, 98, 1, 66, 8, 0, 1, 98]
        self.assertEqual(answers(calls), [1, 1, 1, 0, 1, 0, 1, 6, 1, 2, 3, -2, 0, 1, 1, 0, 1, -5, 1, -5])

    def test_object_is_new_at_the_lists_beginning(self):
        self.assertEqual(ask(COUNT, WRITE, get(0), goes(0, "")), [[0, 0], written("0\n"), [-4], [-5]])

    def test_nothing_is_kept_from_one_time_to_the_next(self):
        first = answers(in_a_list(ALL))
        self.assertEqual(answers([4]), [2, 0, 0])
        self.assertEqual(answers(in_a_list(ALL)), first)
        without_its_begin = in_a_list(ALL[:-1])
        told = answers(without_its_begin)
        self.assertEqual(answers([4]), [2, 0, 0])
        self.assertEqual(answers(without_its_begin), told)

    def test_what_is_handed_in_is_not_changed(self):
        lists = [in_a_list(ALL)]
        for seed in range(40):
            lists.append(in_a_list([CALLS[name](*given) for name, given in draw_calls(random.Random(seed))]))
        for calls in lists:
            before = list(calls)
            answers(calls)
            self.assertEqual(calls, before)

    def test_what_is_given_back_belongs_to_the_caller(self):
        calls = in_a_list(ALL)
        first = answers(calls)
        expected = list(first)
        first.clear()
        self.assertEqual(answers(calls), expected)

    def test_answers_are_a_list_of_whole_numbers(self):
        told = answers(in_a_list(ALL))
        self.assertIs(type(told), list)
        self.assertEqual({type(number) for number in told}, {int})

    def test_nothing_is_printed(self):
        out = io.StringIO()
        with contextlib.redirect_stdout(out), contextlib.redirect_stderr(out):
            answers(in_a_list(ALL))
        self.assertEqual(out.getvalue(), "")

    def test_a_thousand_calls(self):
        told = split(answers(note("ka", "K") * 999 + COUNT))
        self.assertEqual(told, [[number] for number in range(1, 1000)] + [[1, 999]])

    def test_a_thousand_calls_on_a_full_memory(self):
        notes = [note([0x3000 + number], "T") for number in range(64)]
        told = ask(*notes, *[goes(63, "")] * 300, *[join("0\n")] * 300, *[of(0, [0x3000])] * 300, COUNT)
        self.assertEqual(told[64:], [[63]] * 300 + [[64]] * 300 + [[63]] * 300 + [[64, 64]])

    def test_texts_of_30000_bytes(self):
        long = "9" * 29999 + "\n"
        self.assertEqual(ask(join(long), COUNT), [[-2, 0, 2], [0, 0]])
        self.assertEqual(ask(join("7\n" + "x" * 29998), COUNT), [[-2, 1, 1], [0, 0]])

    def test_refused_calls_take_their_arguments_all_the_same(self):
        calls = [note("a" * 33, "b" * 40), note("", ""), note([32], "b"), read("9"), get(0), COUNT]
        self.assertEqual(ask(*calls), [[-1], [-3], [-3], [-2, 0, 1], [-4], [0, 0]])

    def test_so_do_the_calls_7_to_11(self):
        # What a refused call was handed would mean other calls, were it not gone past.
        handed = row([1, 3, 4] * 13)
        calls = [
            forget(handed, handed), forget("", handed[:32]), forget(handed[:32], []), forget("a", "A"),
            of(3, handed), of(4, [4, 0xD800, 4]), of(4, [4, 4]),
            goes(LAST_MOMENT, handed), goes(3, [3, 0x110000, 3]), goes(1, [1]),
            cost(65536, handed, handed), cost(4, handed, [4]), cost(4, [4], handed), cost(4, [4], []), cost(4, [], [4]),
            join([4, 4, 3]), join([]), join("3\n1 4 4 4\n3"),
        ]
        refusals = [
            [-1], [-3], [-3], [-5],
            [-1], [-3], [-5],
            [-1], [-3], [-5],
            [-1], [-1], [-1], [-3], [-3],
            [-2, 0, 1], [-2, 0, 1], [-2, 1, 2],
        ]
        self.assertEqual(ask(*calls, COUNT), refusals + [[0, 0]])
        with_counts = [part for call in calls for part in (call, COUNT)]
        told = ask(note("b", "B"), *with_counts)
        self.assertEqual(told[1::2], refusals)
        self.assertEqual(told[2::2], [[1, 1]] * len(calls))


class RunTest(unittest.TestCase):
    NOTES = [note("ka", "K"), note("ka", "Q"), note("kan", "N"), note("ka", "K")]
    OTHER = "3\nka Q 3 5\nb B 1 1\n"
    TOGETHER = "4\nka K 4 2\nka Q 3 5\nkan N 3 1\nb B 1 1\n"
    END = "5\nb B 5 2\nka K 4 2\nka Q 3 5\nkan N 3 1\n"

    def test_noted(self):
        self.assertEqual(
            ask(*self.NOTES, COUNT, get(0), get(1), get(2), get(3), WRITE),
            [
                [1], [1], [1], [2],
                [3, 4],
                [0, 4, 2, 2, 107, 97, 1, 75],
                [0, 3, 1, 3, 107, 97, 110, 1, 78],
                [0, 2, 1, 2, 107, 97, 1, 81],
                [-4],
                written("4\nka K 4 2\nkan N 3 1\nka Q 2 1\n"),
            ],
        )

    def test_of_and_goes(self):
        told = ask(*self.NOTES, of(0, "ka"), of(1, "ka"), of(2, "ka"), goes(0, "ka"), goes(1, "ka"), goes(2, "ka"))
        self.assertEqual(told[4:], [[0], [2], NOT_REMEMBERED, [0], [1], [2]])

    def test_cost(self):
        told = ask(*self.NOTES, cost(50, "ka", "K"), cost(30, "ka", "Q"), cost(30, "ka", "X"))
        self.assertEqual(told[4:], [[25], [22], [30]])

    def test_put_together_either_way_about(self):
        told = ask(*self.NOTES, WRITE, join(self.OTHER), COUNT, WRITE)
        self.assertEqual(told[5:], [[4], [4, 4], written(self.TOGETHER)])
        self.assertEqual(ask(read(self.OTHER), join(told[4][1:]), COUNT, WRITE)[1:], told[5:])

    def test_to_its_end(self):
        told = ask(*self.NOTES, join(self.OTHER), note("b", "B"), get(0), WRITE)
        self.assertEqual(told[5:], [[2], [0, 5, 2, 1, 98, 1, 66], written(self.END)])

    def test_the_text_of_the_end_is_read_and_written(self):
        self.assertEqual(ask(read(self.END), COUNT, WRITE), [[4], [4, 5], written(self.END)])


if __name__ == "__main__":
    unittest.main()
