"""The call write: the memory's text as it is written."""

import itertools
import unittest

from helper import BEGIN, COUNT, WRITE, ask, counted, get, note, read, text_after, written


class WriteTest(unittest.TestCase):
    def test_a_new_memory(self):
        self.assertEqual(ask(WRITE), [[2, 48, 10]])

    def test_a_clock_alone(self):
        self.assertEqual(ask(read("4294967295\n"), WRITE)[-1], written("4294967295\n"))

    def test_how_many_bytes_then_the_bytes(self):
        told = ask(read("5\n\u20ac K 3 12\n"), WRITE)
        self.assertEqual(told[-1], [13, 53, 10, 0xE2, 0x82, 0xAC, 32, 75, 32, 51, 32, 49, 50, 10])

    def test_characters_of_one_to_four_bytes(self):
        edges = [0x21, 0x7E, 0x80, 0x7FF, 0x800, 0xD7FF, 0xE000, 0xFFFF, 0x10000, 0x10FFFF]
        for character in edges:
            line = chr(character).encode("utf-8")
            expected = b"1\n" + line + b" " + line + line + b" 1 1\n"
            told = ask(note([character], [character, character]), WRITE)
            self.assertEqual(told[-1], counted(list(expected)), hex(character))

    def test_in_order_whatever_order_they_were_read_in(self):
        lines = ["b B 8 1\n", "a A 7 1\n", "a B 7 9\n", "ab A 7 2\n", "b A 7 3\n"]
        for some in itertools.permutations(lines):
            self.assertEqual(text_after(read("9\n" + "".join(some))), "9\n" + "".join(lines))

    def test_the_later_moment_first_as_numbers(self):
        text = "4294967295\na A 9 1\nb B 10 1\nc C 2147483647 1\nd D 2147483648 1\ne E 4294967295 1\n"
        first, *lines = text.splitlines(True)
        self.assertEqual(text_after(read(text)), first + "".join(reversed(lines)))

    def test_rows_by_the_lesser_character_not_by_length(self):
        # In UTF-16 the last reading would stand before the one ahead of it.
        readings = ["a", "aa", "aaz", "ab", "b", "ba", "\u00e9", "\uffff", "\U00010000"]
        lines = [f"{reading} T 1 1\n" for reading in readings]
        self.assertEqual(text_after(read("1\n" + "".join(reversed(lines)))), "1\n" + "".join(lines))
        lines = [f"r {text} 1 1\n" for text in readings]
        self.assertEqual(text_after(read("1\n" + "".join(reversed(lines)))), "1\n" + "".join(lines))

    def test_readings_come_before_texts_and_how_often_counts_for_nothing(self):
        self.assertEqual(text_after(read("5\nb A 3 9\na Z 3 1\na B 3 2\n")), "5\na B 3 2\na Z 3 1\nb A 3 9\n")

    def test_a_text_read_again_is_the_same_memory(self):
        notes = [note("ka", "K"), note([0x3042, 0x10FFFF], [0xE9]), note("ka", "Q"), note("ka", "K")]
        text = text_after(*notes)
        gets = [COUNT, get(0), get(1), get(2), get(3), WRITE]
        self.assertEqual(ask(*notes, *gets)[4:], ask(read(text), *gets)[1:])
        self.assertEqual(ask(*notes, BEGIN, read(text), *gets)[6:], ask(read(text), *gets)[1:])

    def test_a_full_memory_read_again_is_the_same(self):
        notes = [note([0x10FFFF] * 31 + [0x4E00 + number], [0x10000] * 32) for number in range(64)]
        text = text_after(*notes)
        self.assertEqual(ask(read(text), WRITE), [[64], written(text)])

    def test_changes_nothing(self):
        told = ask(note("ka", "K"), WRITE, WRITE, COUNT)
        self.assertEqual(told[1:], [written("1\nka K 1 1\n")] * 2 + [[1, 1]])


if __name__ == "__main__":
    unittest.main()
