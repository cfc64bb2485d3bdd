"""The call join: a memory put together with another, which a text tells."""

import itertools
import unittest

from helper import (
    CLOCK_AT_END, COUNT, LAST_MOMENT, WRITE, ask, fault, full, get, join, note, of, read, text_after, written,
)


class TwoMemoriesTest(unittest.TestCase):
    def together(self, one, other, expected):
        """Put together, either way about, and once more with each: the memory that the text tells."""
        how_many = expected.count("\n") - 1
        for first, second in ((one, other), (other, one)):
            told = ask(read(first), join(second), WRITE, join(first), join(second), join(second), WRITE)
            self.assertEqual(told[1:], [[how_many], written(expected)] + [[how_many]] * 3 + [written(expected)])

    def test_the_greater_clock(self):
        self.together("5\n", "9\n", "9\n")
        self.together("5\na A 5 1\n", "9\n", "9\na A 5 1\n")
        self.together("2147483647\na A 5 1\n", "2147483648\n", "2147483648\na A 5 1\n")
        self.together("4294967295\n", "0\n", "4294967295\n")

    def test_things_that_one_of_them_has(self):
        self.together("5\na A 5 1\nc C 1 7\n", "5\nb B 4 2\n", "5\na A 5 1\nb B 4 2\nc C 1 7\n")

    def test_the_later_moment_of_each(self):
        self.together("9\na A 5 1\nb B 8 1\n", "9\nb B 3 1\na A 6 1\n", "9\nb B 8 1\na A 6 1\n")

    def test_the_later_wins_though_less_often(self):
        self.together("9\na A 4 65535\n", "9\na A 5 1\n", "9\na A 5 1\n")

    def test_of_one_moment_the_more_often(self):
        self.together("9\na A 5 3\nb B 5 9\n", "9\na A 5 2\nb B 5 10\n", "9\na A 5 3\nb B 5 10\n")

    def test_how_often_is_never_added_up(self):
        self.together("9\na A 5 3\n", "9\na A 5 3\n", "9\na A 5 3\n")
        self.together("9\na A 5 3\n", "9\na A 4 3\n", "9\na A 5 3\n")
        self.together("9\na A 5 65535\n", "9\na A 5 65535\n", "9\na A 5 65535\n")

    def test_moments_and_how_often_as_numbers_without_a_sign(self):
        self.together("4294967295\na A 2147483648 1\n", "9\na A 9 1\n", "4294967295\na A 2147483648 1\n")
        self.together("4294967295\na A 4294967295 1\n", "4294967295\na A 2147483647 9\n",
                      "4294967295\na A 4294967295 1\n")
        self.together("99\na A 10 1\n", "99\na A 9 9\n", "99\na A 10 1\n")
        self.together("99\na A 9 32768\n", "99\na A 9 32767\n", "99\na A 9 32768\n")

    def test_reading_and_text_both_tell_which_thing(self):
        self.together("9\nka K 5 1\n", "9\nka Q 5 1\nk aK 5 1\nkaK K 5 1\nK ka 5 1\n",
                      "9\nK ka 5 1\nk aK 5 1\nka K 5 1\nka Q 5 1\nkaK K 5 1\n")

    def test_in_order_by_moments_then_readings_then_texts(self):
        self.together("9\nb B 5 1\na B 5 9\nz Z 7 1\n", "9\nab A 5 3\na A 5 1\n\u00e9 A 5 1\ny Y 3 1\n",
                      "9\nz Z 7 1\na A 5 1\na B 5 9\nab A 5 3\nb B 5 1\n\u00e9 A 5 1\ny Y 3 1\n")

    def test_with_itself(self):
        for text in ("0\n", "7\n", "9\nb B 5 3\na A 5 2\n", full([7] * 64), full(range(164, 100, -1))):
            self.together(text, text, text_after(read(text)))

    def test_with_the_memory_of_no_thing(self):
        for text in ("0\n", "7\n", "9\nb B 5 3\na A 4 2\n", full([7] * 64)):
            self.together(text, "0\n", text)

    def test_the_longest_rows_and_greatest_numbers(self):
        text = "4294967295\n" + "\U0010ffff" * 32 + " " + "\ud7ff" * 32 + " 4294967295 65535\n"
        self.together(text, "1\n! ! 1 1\n", text + "! ! 1 1\n")


class First64Test(TwoMemoriesTest):
    def test_the_latest_64_of_both(self):
        one = [(2 * number, f"m{number} M {2 * number} 1\n") for number in range(1, 65)]
        other = [(2 * number + 1, f"o{number} O {2 * number + 1} 1\n") for number in range(1, 65)]
        both = sorted(one + other, reverse=True)[:64]
        one, other, both = ("200\n" + "".join(line for moment, line in lines) for lines in (one, other, both))
        self.together(one, other, both)

    def test_of_one_moment_the_first_by_readings_and_texts(self):
        one = [f"r{number:02} T 7 1\n" for number in range(0, 128, 2)]
        other = [f"r{number:02} T 7 9\n" for number in range(1, 128, 2)]
        both = sorted(one + other)[:64]
        self.together("9\n" + "".join(one), "9\n" + "".join(other), "9\n" + "".join(both))
        one = [f"r T{number:03} 7 9\n" for number in range(0, 128, 2)]
        other = [f"r T{number:03} 7 1\n" for number in range(1, 128, 2)]
        both = sorted(one + other)[:64]
        self.together("9\n" + "".join(one), "9\n" + "".join(other), "9\n" + "".join(both))

    def test_64_and_one(self):
        self.together(full([100] * 64), "9\nold T 9 65535\n", full([100] * 64))
        new = full([100] * 64).replace("1000\n", "2000\nnew T 1001 1\n").replace("r63 T 100 1\n", "")
        self.together(full([100] * 64), "2000\nnew T 1001 1\n", new)

    def test_64_and_the_same_64(self):
        later = full(range(264, 200, -1))
        self.together(full([100] * 64), later, later)

    def test_63_and_one(self):
        self.together(full([100] * 63), "9\nold T 9 1\n", full([100] * 63) + "old T 9 1\n")


class ManyMemoriesTest(unittest.TestCase):
    MEMORIES = [
        "9\na A 9 1\nb B 3 4\nc C 3 1\n",
        "12\nb B 3 5\na A 8 65535\n",
        "7\nc C 7 1\na A 7 2\nd D 1 1\n",
        full(range(64, 0, -1)),
        "70\n" + "".join(f"s{number:02} S {number + 1} 2\n" for number in range(64)),
    ]

    def test_in_whatever_order(self):
        expected = text_after(*[join(text) for text in self.MEMORIES])
        self.assertEqual(expected.count("\n"), 65)
        for texts in itertools.permutations(self.MEMORIES):
            self.assertEqual(text_after(*[join(text) for text in texts]), expected)

    def test_however_often(self):
        expected = text_after(*[join(text) for text in self.MEMORIES])
        for texts in (self.MEMORIES * 2, self.MEMORIES + self.MEMORIES[::-1], [self.MEMORIES[0]] * 3 + self.MEMORIES):
            self.assertEqual(text_after(*[join(text) for text in texts]), expected)

    def test_some_put_together_first(self):
        expected = text_after(*[join(text) for text in self.MEMORIES])
        for cut in range(len(self.MEMORIES) + 1):
            first = text_after(*[join(text) for text in self.MEMORIES[:cut]])
            rest = text_after(*[join(text) for text in self.MEMORIES[cut:]])
            self.assertEqual(text_after(read(first), join(rest)), expected)
            self.assertEqual(text_after(read(rest), join(first)), expected)


class ThenTest(unittest.TestCase):
    def test_a_thing_noted_then_comes_first(self):
        for clock in (1, 3, 8, 2147483647, 2147483648, LAST_MOMENT - 1):
            told = ask(note("a", "A"), note("b", "B"), join(f"{clock}\nc C {clock} 5\n"), note("a", "A"), get(0))
            self.assertEqual(told[3:], [[2], [0, max(2, clock) + 1, 2, 1, 97, 1, 65]])

    def test_so_does_one_that_came_from_the_other(self):
        told = ask(note("a", "A"), join("8\nb B 8 5\nc C 7 1\n"), note("c", "C"), note("b", "B"), WRITE)
        self.assertEqual(told[2:], [[2], [6], written("10\nb B 10 6\nc C 9 2\na A 1 1\n")])

    def test_none_is_noted_at_the_clocks_end(self):
        told = ask(note("a", "A"), join("4294967295\n"), note("a", "A"), WRITE)
        self.assertEqual(told[1:], [[1], CLOCK_AT_END, written("4294967295\na A 1 1\n")])

    def test_on_a_new_object_the_other_memory_itself(self):
        text = "9\na A 9 1\nb B 3 4\n"
        self.assertEqual(ask(join(text), WRITE, COUNT, of(0, "b")), [[2], written(text), [2, 9], [1]])

    def test_how_many_things_there_are_then(self):
        told = ask(join("0\n"), join("5\na A 1 1\n"), join("5\na B 1 1\n"), join("5\na A 2 1\n"), join(full([3] * 62)),
                   join("5\nq Q 1 1\n"), COUNT)
        self.assertEqual(told, [[0], [1], [2], [2], [64], [64], [64, 1000]])

    def test_lines_in_any_order(self):
        lines = ["a A 5 1\n", "b B 7 1\n", "c C 6 1\n"]
        for some in itertools.permutations(lines):
            self.assertEqual(text_after(note("z", "Z"), join("9\n" + "".join(some))),
                             "9\nb B 7 1\nc C 6 1\na A 5 1\nz Z 1 1\n")


class FaultTest(unittest.TestCase):
    """Some of each kind; test_read has all of them, for read and join alike."""

    BEFORE = "4\nka K 4 2\nkan N 3 1\nka Q 2 1\n"

    def refused(self, text, line, kind):
        told = ask(read(self.BEFORE), join(text), WRITE, COUNT, join("9\nb B 9 1\n"))
        self.assertEqual(told[1:], [fault(line, kind), written(self.BEFORE), [3, 4], [4]])

    def test_no_such_line(self):
        for text, line in (("", 0), ("9", 0), ("\n", 0), ("09\n", 0), ("9\nka K 9 1", 1), ("9\nka K 9 1\n\n", 2),
                           ("9\nka K 9 01\n", 1), (b"9\n\xc0\x80 K 9 1\n", 1), (b"9\n\xed\xa0\x80 K 9 1\n", 1)):
            self.refused(text, line, 1)

    def test_out_of_bounds(self):
        for text, line in (("4294967296\n", 0), ("9\nka K 9 1\nb B 10 1\n", 2), ("9\nka K 0 1\n", 1),
                           ("9\nka K 9 0\n", 1), ("9\nka K 9 65536\n", 1), (f"9\n{'k' * 33} K 9 1\n", 1),
                           (f"9\nka {'K' * 33} 9 1\n", 1)):
            self.refused(text, line, 2)

    def test_a_moment_above_its_own_clock_though_not_above_the_objects(self):
        self.refused("3\nka K 4 1\n", 1, 2)

    def test_a_line_before_has_it(self):
        self.refused("9\nka K 9 1\nb B 9 1\nka K 8 1\n", 3, 3)

    def test_what_the_object_has_is_no_fault(self):
        self.assertEqual(ask(read(self.BEFORE), join(self.BEFORE))[1], [3])

    def test_the_65th_thing(self):
        self.refused("9\n" + "".join(f"r{number} T 9 1\n" for number in range(65)), 65, 4)


if __name__ == "__main__":
    unittest.main()
