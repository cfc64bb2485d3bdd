"""The call cost."""

import unittest

from helper import (
    LAST_MOMENT, MAY_NOT_STAND, NEIGHBOURS, NO_CHARACTERS, STRANGERS, TOO_LONG, WRITE,
    ask, cost, join, note, read, written,
)

TEXT = "9\nb B 8 1\nc C 7 2\nd D 6 3\ne E 5 4\nf F 4 65534\ng G 3 65535\n"


class CostTest(unittest.TestCase):
    def costs(self, c):
        """What words cost, unremembered first, then in the order of the text."""
        calls = [cost(c, reading, reading.upper()) for reading in "abcdefg"]
        return [answer[0] for answer in ask(read(TEXT), *calls)[1:]]

    def test_by_how_often_it_was_chosen(self):
        self.assertEqual(self.costs(100), [100, 75, 50, 25, 25, 25, 25])

    def test_rounded_down_at_each(self):
        self.assertEqual(self.costs(1), [1, 0, 0, 0, 0, 0, 0])
        self.assertEqual(self.costs(2), [2, 1, 1, 0, 0, 0, 0])
        self.assertEqual(self.costs(3), [3, 2, 1, 0, 0, 0, 0])
        self.assertEqual(self.costs(4), [4, 3, 2, 1, 1, 1, 1])
        self.assertEqual(self.costs(5), [5, 3, 2, 1, 1, 1, 1])
        self.assertEqual(self.costs(6), [6, 4, 3, 1, 1, 1, 1])
        self.assertEqual(self.costs(7), [7, 5, 3, 1, 1, 1, 1])

    def test_0_and_the_greatest(self):
        self.assertEqual(self.costs(0), [0] * 7)
        self.assertEqual(self.costs(65534), [65534, 49150, 32767, 16383, 16383, 16383, 16383])
        self.assertEqual(self.costs(65535), [65535, 49151, 32767, 16383, 16383, 16383, 16383])

    def test_every_cost(self):
        for start in range(0, 65536, 4096):
            some = range(start, start + 4096, 7)
            for reading, quarters in (("a", 4), ("b", 3), ("c", 2), ("d", 1), ("g", 1)):
                told = ask(read(TEXT), *[cost(c, reading, reading.upper()) for c in some])
                self.assertEqual(told[1:], [[c * quarters // 4] for c in some])

    def test_noted_again_and_again(self):
        calls = []
        for number in range(5):
            calls += [cost(99, "ka", "K"), note("ka", "K")]
        self.assertEqual(ask(*calls)[::2], [[99], [74], [49], [24], [24]])

    def test_of_the_reading_and_text_alone(self):
        told = ask(*[note("ka", "K")] * 3,
                   cost(40, "ka", "Q"), cost(40, "k", "K"), cost(40, "K", "ka"), cost(40, "ka", "K"))
        self.assertEqual(told[3:], [[40], [40], [40], [10]])

    def test_after_a_join(self):
        self.assertEqual(ask(note("ka", "K"), join("9\nka K 9 2\n"), cost(40, "ka", "K"))[2], [20])

    def test_rows_of_32_characters_and_what_may_just_stand(self):
        for character in NEIGHBOURS:
            long = [character] * 32
            told = ask(cost(8, long, long), note(long, long), cost(8, long, long))
            self.assertEqual(told, [[8], [1], [6]], hex(character))

    def test_changes_nothing(self):
        self.assertEqual(ask(read(TEXT), cost(8, "b", "B"), cost(8, "x", "X"), WRITE)[3], written(TEXT))


class RefusedTest(unittest.TestCase):
    def refused(self, c, reading, text, refusal):
        self.assertEqual(ask(read(TEXT), cost(c, reading, text), WRITE)[1:], [refusal, written(TEXT)])

    def test_a_cost_above_65535(self):
        for c in (65536, 65537, 131072, 2147483648, LAST_MOMENT):
            self.refused(c, "b", "B", TOO_LONG)
            self.refused(c, "x", "X", TOO_LONG)

    def test_above_32_characters(self):
        for reading, text in (("b" * 33, "B"), ("b", "B" * 33), ("b" * 40, "B" * 40)):
            self.refused(8, reading, text, TOO_LONG)

    def test_empty(self):
        for reading, text in (("", "B"), ("b", ""), ("", "")):
            self.refused(8, reading, text, MAY_NOT_STAND)

    def test_what_may_not_stand_there(self):
        for stranger in STRANGERS + NO_CHARACTERS:
            self.refused(8, [stranger], "B", MAY_NOT_STAND)
            self.refused(8, "b", [stranger], MAY_NOT_STAND)
            self.refused(8, [98, stranger], "B", MAY_NOT_STAND)
            self.refused(65535, "b", [stranger, 66], MAY_NOT_STAND)

    def test_too_great_and_too_long_come_before_what_may_not_stand(self):
        self.refused(65536, "", "B", TOO_LONG)
        self.refused(65536, "b", [0x20], TOO_LONG)
        self.refused(65536, [0xD800], "", TOO_LONG)
        self.refused(8, "b" * 33, "", TOO_LONG)
        self.refused(8, "", "B" * 33, TOO_LONG)
        self.refused(8, [0] * 33, "B", TOO_LONG)


if __name__ == "__main__":
    unittest.main()
