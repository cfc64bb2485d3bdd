"""The calls of and goes."""

import unittest

from helper import (
    LAST_MOMENT, NEIGHBOURS, NO_CHARACTERS, NOT_REMEMBERED, STRANGERS, TOO_LONG, WRITE,
    ask, forget, full, goes, note, of, read, written,
)

TEXT = "9\na A 9 1\nab B 8 9\nb B 8 1\na C 7 1\nabc D 7 1\nba A 7 1\na Z 1 7\nA E 1 1\n"
# In order: 0 a A, 1 ab B, 2 b B, 3 a C, 4 abc D, 5 ba A, 6 A E, 7 a Z.


class SoughtTest(unittest.TestCase):
    def found(self, call, text, reading, places):
        """All that the call tells of the reading, from the first to one that is too many."""
        told = ask(read(text), *[call(j, reading) for j in range(len(places) + 1)], WRITE)
        self.assertEqual(told[1:-1], [[place] for place in places] + [NOT_REMEMBERED], reading)
        # Nothing is changed by seeking.
        self.assertEqual(told[-1], ask(read(text), WRITE)[1])


class OfTest(SoughtTest):
    def test_told_whole_the_latest_first(self):
        self.found(of, TEXT, "a", [0, 3, 7])

    def test_just_this_reading(self):
        for reading, places in (("ab", [1]), ("abc", [4]), ("b", [2]), ("ba", [5]), ("A", [6])):
            self.found(of, TEXT, reading, places)

    def test_none_has_it(self):
        for reading in ("abcd", "c", "B", "\u00e1", "aa", "a" * 32, [0x10FFFF]):
            self.found(of, TEXT, reading, [])

    def test_an_empty_reading_none_has(self):
        self.found(of, TEXT, "", [])

    def test_by_texts_where_the_moments_are_one(self):
        self.found(of, "9\nr C 5 1\na A 5 1\nr A 5 1\nz A 6 1\nr B 5 1\nr AA 5 1\nr X 9 1\n", "r", [0, 3, 4, 5, 6])

    def test_64_of_one_reading(self):
        text = "9\n" + "".join(f"r T{number} 5 1\n" for number in range(64))
        self.found(of, text, "r", list(range(64)))

    def test_after_notes_and_a_forgotten_one(self):
        told = ask(note("r", "A"), note("s", "A"), note("r", "B"), note("r", "A"), of(0, "r"), of(1, "r"), of(2, "r"),
                   forget("r", "A"), of(0, "r"), of(1, "r"), of(0, "s"))
        self.assertEqual(told[4:], [[0], [1], NOT_REMEMBERED, [0], [0], NOT_REMEMBERED, [1]])


class GoesTest(SoughtTest):
    def test_told_whole_the_latest_first_the_reading_itself_too(self):
        self.found(goes, TEXT, "a", [0, 1, 3, 4, 7])

    def test_longer_beginnings(self):
        for reading, places in (("ab", [1, 4]), ("abc", [4]), ("b", [2, 5]), ("ba", [5]), ("A", [6])):
            self.found(goes, TEXT, reading, places)

    def test_none_begins_so(self):
        # Nor does one that stands further inside, or one that the sought reading begins with.
        for reading in ("abcd", "c", "bc", "B", "aa", "a" * 32, [0x10FFFF]):
            self.found(goes, TEXT, reading, [])

    def test_all_begin_with_an_empty_reading(self):
        self.found(goes, TEXT, "", list(range(8)))
        self.found(goes, "9\n", "", [])
        self.found(goes, full([7] * 64), "", list(range(64)))

    def test_by_readings_and_texts_where_the_moments_are_one(self):
        text = "9\nra A 5 1\nr B 5 1\nrb A 6 1\nq A 5 1\nr A 5 1\nraa A 5 1\nrA Z 5 1\ns A 5 1\n"
        # In order: rb A; q A, r A, r B, rA Z, ra A, raa A, s A.
        self.found(goes, text, "r", [0, 2, 3, 4, 5, 6])
        self.found(goes, text, "ra", [5, 6])

    def test_a_reading_of_32_characters(self):
        text = f"9\n{'r' * 32} A 5 1\n{'r' * 31} A 4 1\n"
        self.found(goes, text, "r" * 32, [0])
        self.found(goes, text, "r" * 31, [0, 1])

    def test_after_notes_and_a_forgotten_one(self):
        told = ask(note("r", "A"), note("s", "A"), note("rr", "B"), goes(0, "r"), goes(1, "r"), goes(2, "r"),
                   forget("r", "A"), goes(0, "r"), goes(1, "r"))
        self.assertEqual(told[3:], [[0], [2], NOT_REMEMBERED, [0], [0], NOT_REMEMBERED])


class BothTest(unittest.TestCase):
    def test_the_j_that_is_just_too_great_and_greater_ones(self):
        told = ask(read(TEXT), of(2, "a"), of(3, "a"), of(65536, "a"), of(LAST_MOMENT, "a"),
                   goes(4, "a"), goes(5, "a"), goes(65536, "a"), goes(LAST_MOMENT, "a"), goes(8, ""))
        self.assertEqual(told[1:], [[7]] + [NOT_REMEMBERED] * 3 + [[7]] + [NOT_REMEMBERED] * 4)

    def test_nothing_is_remembered(self):
        self.assertEqual(ask(of(0, "a"), of(0, ""), goes(0, "a"), goes(0, "")), [NOT_REMEMBERED] * 4)

    def test_a_character_that_may_not_stand_in_a_thing_is_looked_for(self):
        for call in (of, goes):
            for character in STRANGERS:
                told = ask(read(TEXT), call(0, [character]), call(0, [97, character]), call(0, [character, 97]))
                self.assertEqual(told[1:], [NOT_REMEMBERED] * 3, hex(character))

    def test_what_may_just_stand(self):
        for call in (of, goes):
            for character in NEIGHBOURS:
                told = ask(note([character], "A"), call(0, [character]), call(1, [character]))
                self.assertEqual(told[1:], [[0], NOT_REMEMBERED], hex(character))

    def refused(self, call, j, reading, refusal):
        self.assertEqual(ask(read(TEXT), call(j, reading), WRITE)[1:], [refusal, ask(read(TEXT), WRITE)[1]], reading)

    def test_what_is_no_character(self):
        for call in (of, goes):
            for number in NO_CHARACTERS:
                for reading in ([number], [97, number], [number, 97], [0x20, number], [97] * 31 + [number]):
                    self.refused(call, 0, reading, [-3])
                    # It comes before that there aren't so many.
                    self.refused(call, LAST_MOMENT, reading, [-3])

    def test_above_32_characters(self):
        for call in (of, goes):
            for reading in ("a" * 33, "a" * 40, [0] * 33, [0xD800] * 33, [97] * 32 + [LAST_MOMENT]):
                self.refused(call, 0, reading, TOO_LONG)
                self.refused(call, LAST_MOMENT, reading, TOO_LONG)

    def test_32_characters(self):
        for call in (of, goes):
            self.refused(call, 0, "a" * 32, NOT_REMEMBERED)
            self.refused(call, 0, [0] * 32, NOT_REMEMBERED)

    def test_after_a_refusal_the_next_call_is_answered(self):
        told = ask(read(TEXT), of(0, "a" * 33), goes(0, [0xD800]), of(9, "a"), goes(1, "a"), WRITE)
        text = "9\na A 9 1\nab B 8 9\nb B 8 1\na C 7 1\nabc D 7 1\nba A 7 1\nA E 1 1\na Z 1 7\n"
        self.assertEqual(told[1:], [TOO_LONG, [-3], NOT_REMEMBERED, [1], written(text)])


if __name__ == "__main__":
    unittest.main()
