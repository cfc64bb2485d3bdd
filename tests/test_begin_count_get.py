"""The calls begin, count and get."""

import unittest

from helper import BEGIN, COUNT, LAST_MOMENT, NONE_THERE, WRITE, ask, get, note, read, written


class BeginTest(unittest.TestCase):
    def test_after_notes(self):
        told = ask(note("ka", "K"), note("b", "B"), BEGIN, COUNT, WRITE, get(0))
        self.assertEqual(told[2:], [[0], [0, 0], written("0\n"), NONE_THERE])

    def test_after_a_read(self):
        told = ask(read("9\nka K 4 2\n"), BEGIN, COUNT, WRITE, get(0))
        self.assertEqual(told, [[1], [0], [0, 0], written("0\n"), NONE_THERE])

    def test_on_a_new_object_and_twice(self):
        self.assertEqual(ask(BEGIN, BEGIN, COUNT), [[0], [0], [0, 0]])

    def test_a_thing_noted_then_is_new(self):
        told = ask(note("ka", "K"), BEGIN, note("ka", "K"), WRITE)
        self.assertEqual(told[2:], [[1], written("1\nka K 1 1\n")])


class CountTest(unittest.TestCase):
    def test_how_many_things_and_the_clock(self):
        self.assertEqual(ask(note("a", "A"), note("b", "B"), note("a", "A"), COUNT)[-1], [2, 3])

    def test_after_a_read(self):
        self.assertEqual(ask(read("12\na A 3 1\n"), COUNT)[-1], [1, 12])

    def test_clock_at_its_end(self):
        self.assertEqual(ask(read("4294967295\n"), COUNT)[-1], [0, LAST_MOMENT])

    def test_a_full_memory(self):
        notes = [note([0x3000 + number], "T") for number in range(70)]
        self.assertEqual(ask(*notes, COUNT)[-1], [64, 70])


class GetTest(unittest.TestCase):
    TEXT = "4294967295\nka K 4294967295 65535\nb\u00e9 \u20ac\U0001f600 7 3\n"

    def test_moment_how_often_and_both_rows(self):
        self.assertEqual(
            ask(read(self.TEXT), get(0), get(1))[1:],
            [
                [0, LAST_MOMENT, 65535, 2, 107, 97, 1, 75],
                [0, 7, 3, 2, 98, 0xE9, 2, 0x20AC, 0x1F600],
            ],
        )

    def test_rows_of_32_characters(self):
        told = ask(note([0x10FFFF] * 32, "t" * 32), get(0))
        self.assertEqual(told[1], [0, 1, 1, 32] + [0x10FFFF] * 32 + [32] + [116] * 32)

    def test_none_there(self):
        self.assertEqual(ask(get(0)), [NONE_THERE])
        self.assertEqual(ask(read(self.TEXT), get(2), get(LAST_MOMENT))[1:], [NONE_THERE] * 2)

    def test_the_last_of_64(self):
        notes = [note([0x3000 + number], "T") for number in range(64)]
        told = ask(*notes, get(63), get(64))
        self.assertEqual(told[-2:], [[0, 1, 1, 1, 0x3000, 1, 84], NONE_THERE])

    def test_in_order_not_as_they_were_read(self):
        told = ask(read("9\nb B 2 1\na A 7 1\n"), get(0), get(1))
        self.assertEqual(told[1:], [[0, 7, 1, 1, 97, 1, 65], [0, 2, 1, 1, 98, 1, 66]])

    def test_changes_nothing(self):
        told = ask(read(self.TEXT), get(0), get(1), get(2), WRITE)
        self.assertEqual(told[-1], written(self.TEXT))


if __name__ == "__main__":
    unittest.main()
