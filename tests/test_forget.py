"""The call forget."""

import unittest

from helper import (
    COUNT, LAST_MOMENT, MAY_NOT_STAND, NEIGHBOURS, NO_CHARACTERS, NOT_REMEMBERED, STRANGERS, TOO_LONG, WRITE,
    ask, cost, forget, full, get, note, of, read, text_after, written,
)


class ForgottenTest(unittest.TestCase):
    TEXT = "9\nka K 8 6\nka Q 7 1\nkan K 7 2\nk K 5 3\nka KK 2 1\n"

    def test_it_alone_is_gone(self):
        told = ask(read(self.TEXT), forget("ka", "K"), WRITE)
        self.assertEqual(told[1:], [[0], written("9\nka Q 7 1\nkan K 7 2\nk K 5 3\nka KK 2 1\n")])

    def test_each_of_them_the_order_of_the_others_stays(self):
        clock, *lines = self.TEXT.splitlines(True)
        for place, line in enumerate(lines):
            others = lines[:place] + lines[place + 1:]
            reading, text = line.split(" ")[:2]
            told = ask(read(self.TEXT), forget(reading, text), WRITE)
            self.assertEqual(told[1:], [[0], written(clock + "".join(others))], line)

    def test_others_of_its_reading_and_of_its_text_stay(self):
        told = ask(read(self.TEXT), forget("ka", "K"), of(0, "ka"), of(1, "ka"), of(2, "ka"), get(0))
        self.assertEqual(told[2:], [[0], [3], NOT_REMEMBERED, [0, 7, 1, 2, 107, 97, 1, 81]])

    def test_the_clock_stays(self):
        told = ask(note("a", "A"), note("b", "B"), forget("b", "B"), COUNT, forget("a", "A"), COUNT, WRITE)
        self.assertEqual(told[2:], [[0], [1, 2], [0], [0, 2], written("2\n")])

    def test_twice_it_is_not_there(self):
        self.assertEqual(ask(note("a", "A"), forget("a", "A"), forget("a", "A")), [[1], [0], NOT_REMEMBERED])

    def test_noted_again_it_is_once_and_first(self):
        told = ask(read(self.TEXT), forget("ka", "K"), note("ka", "K"), WRITE)
        self.assertEqual(told[2:], [[1], written("10\nka K 10 1\nka Q 7 1\nkan K 7 2\nk K 5 3\nka KK 2 1\n")])

    def test_it_costs_what_it_costs_unremembered(self):
        told = ask(read(self.TEXT), forget("ka", "K"), cost(100, "ka", "K"), cost(100, "kan", "K"))
        self.assertEqual(told[2:], [[100], [50]])

    def test_at_the_clocks_end(self):
        told = ask(read("4294967295\na A 4294967295 65535\n"), forget("a", "A"), WRITE, note("a", "A"))
        self.assertEqual(told[1:], [[0], written("4294967295\n"), [-6]])

    def test_one_of_64_makes_room_for_one(self):
        text = full([7] * 64)
        told = ask(read(text), forget("r05", "T"), COUNT, note("new", "T"), COUNT)
        self.assertEqual(told, [[64], [0], [63, 1000], [1], [64, 1001]])
        after = text_after(read(text), forget("r05", "T"), note("new", "T"))
        self.assertTrue(after.endswith("r62 T 7 1\nr63 T 7 1\n"))
        self.assertNotIn("r05", after)

    def test_what_may_just_stand(self):
        for character in NEIGHBOURS:
            told = ask(note([character], [character] * 32), forget([character], [character] * 32), COUNT)
            self.assertEqual(told, [[1], [0], [0, 1]], hex(character))


class RefusedTest(unittest.TestCase):
    TEXT = "9\nka K 8 6\nb B 4 1\n"

    def refused(self, reading, text, refusal):
        told = ask(read(self.TEXT), forget(reading, text), WRITE, COUNT)
        self.assertEqual(told, [[2], refusal, written(self.TEXT), [2, 9]], (reading, text))

    def test_not_remembered(self):
        for reading, text in (("ka", "B"), ("b", "K"), ("K", "ka"), ("k", "aK"), ("kaK", "K"), ("ka", "KK"), ("k", "K"),
                              ("kan", "K"), ("KA", "k"), ("r" * 32, "t" * 32), ([0x10FFFF], [0x21])):
            self.refused(reading, text, NOT_REMEMBERED)

    def test_nothing_is_remembered(self):
        self.assertEqual(ask(forget("ka", "K"), COUNT), [NOT_REMEMBERED, [0, 0]])

    def test_above_32_characters(self):
        for reading, text in (("r" * 33, "t"), ("r", "t" * 33), ("r" * 40, "t" * 40)):
            self.refused(reading, text, TOO_LONG)

    def test_empty(self):
        for reading, text in (("", "K"), ("ka", ""), ("", "")):
            self.refused(reading, text, MAY_NOT_STAND)

    def test_what_may_not_stand_there(self):
        for stranger in STRANGERS + NO_CHARACTERS:
            self.refused([stranger], "K", MAY_NOT_STAND)
            self.refused("ka", [stranger], MAY_NOT_STAND)
            self.refused([107, 97, stranger], "K", MAY_NOT_STAND)
            self.refused("ka", [stranger, 75], MAY_NOT_STAND)

    def test_too_long_comes_before_all_else(self):
        self.refused("r" * 33, "", TOO_LONG)
        self.refused("", "t" * 33, TOO_LONG)
        self.refused([0] * 33, "K", TOO_LONG)
        self.refused([0xD800], [LAST_MOMENT] * 33, TOO_LONG)

    def test_what_may_not_stand_comes_before_not_remembered(self):
        self.refused("nowhere", "", MAY_NOT_STAND)
        self.refused([0x20], "nowhere", MAY_NOT_STAND)


if __name__ == "__main__":
    unittest.main()
