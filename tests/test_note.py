"""The call note."""

import unittest

from helper import (
    CLOCK_AT_END, COUNT, LAST_MOMENT, MAY_NOT_STAND, NEIGHBOURS, NO_CHARACTERS, STRANGERS, TOO_LONG, WRITE,
    ask, full, note, read, text_after, written,
)


class NotedTest(unittest.TestCase):
    def test_a_new_thing(self):
        self.assertEqual(ask(note("ka", "K"), WRITE), [[1], written("1\nka K 1 1\n")])

    def test_the_noted_one_is_first_and_the_others_stay_in_order(self):
        text = "9\nd D 8 1\nb B 5 1\nc C 5 9\na A 2 1\n"
        self.assertEqual(text_after(read(text), note("e", "E")),
                         "10\ne E 10 1\nd D 8 1\nb B 5 1\nc C 5 9\na A 2 1\n")
        self.assertEqual(text_after(read(text), note("c", "C")),
                         "10\nc C 10 10\nd D 8 1\nb B 5 1\na A 2 1\n")
        self.assertEqual(text_after(read(text), note("a", "A")),
                         "10\na A 10 2\nd D 8 1\nb B 5 1\nc C 5 9\n")

    def test_one_that_is_there_is_as_often_and_once_more(self):
        told = ask(read("9\nka K 4 6\n"), note("ka", "K"), note("ka", "K"), WRITE)
        self.assertEqual(told[1:], [[7], [8], written("11\nka K 11 8\n")])

    def test_reading_and_text_both_tell_which_thing(self):
        told = ask(note("ka", "K"), note("ka", "Q"), note("kan", "K"), note("k", "aK"), note("kaK", "K"), COUNT)
        self.assertEqual(told, [[1]] * 5 + [[5, 5]])

    def test_reading_and_text_are_not_exchanged(self):
        self.assertEqual(ask(note("a", "b"), note("b", "a"), COUNT), [[1], [1], [2, 2]])

    def test_the_most_often_is_not_the_first(self):
        self.assertEqual(text_after(read("9\nka K 4 600\n"), note("b", "B")), "10\nb B 10 1\nka K 4 600\n")

    def test_65535_stays(self):
        told = ask(read("9\nka K 4 65534\n"), note("ka", "K"), note("ka", "K"), note("ka", "K"), WRITE)
        self.assertEqual(told[1:], [[65535]] * 3 + [written("12\nka K 12 65535\n")])

    def test_rows_of_1_to_32_characters(self):
        self.assertEqual(ask(note("r" * 32, "t" * 32), note("r", "t"), COUNT), [[1], [1], [2, 2]])

    def test_what_may_just_stand(self):
        for character in NEIGHBOURS:
            self.assertEqual(ask(note([character], [character, character])), [[1]], hex(character))


class SixtyFifthTest(unittest.TestCase):
    def test_the_earliest_goes_wherever_it_was_read(self):
        for place in (0, 31, 63):
            moments = [100 + number for number in range(64)]
            moments[place] = 50
            after = text_after(read(full(moments)), note("new", "T"))
            self.assertNotIn(f"r{place:02} T", after)
            self.assertTrue(after.startswith("1001\nnew T 1001 1\n"))
            self.assertEqual(after.count("\n"), 65)

    def test_of_one_moment_the_last_reading_goes(self):
        after = text_after(read(full([7] * 64)), note("a", "T"), note("zz", "T"))
        self.assertNotIn("r63 T", after)
        self.assertNotIn("r62 T", after)
        self.assertIn("r61 T", after)
        self.assertTrue(after.startswith("1002\nzz T 1002 1\na T 1001 1\nr00 T 7 1\n"))

    def test_of_one_moment_and_reading_the_last_text_goes(self):
        lines = [f"r T{number:02} 7 {number + 1}\n" for number in range(64)]
        after = text_after(read("9\n" + "".join(reversed(lines))), note("r", "A"))
        self.assertEqual(after, "10\nr A 10 1\n" + "".join(lines[:63]))

    def test_the_least_often_does_not_go_for_that(self):
        text = full([100] * 63 + [99]).replace("r63 T 99 1", "r63 T 99 60000")
        after = text_after(read(text), note("new", "T"))
        self.assertNotIn("r63 T", after)
        self.assertIn("r62 T", after)

    def test_none_goes_when_a_thing_of_64_is_noted_again(self):
        told = ask(read(full([7] * 64)), note("r63", "T"), COUNT)
        self.assertEqual(told, [[64], [2], [64, 1001]])
        after = text_after(read(full([7] * 64)), note("r63", "T"))
        self.assertTrue(after.startswith("1001\nr63 T 1001 2\nr00 T 7 1\n"))
        self.assertTrue(after.endswith("r62 T 7 1\n"))

    def test_none_goes_of_64(self):
        text = "".join(full([7] * 64).splitlines(True)[:-1])
        self.assertEqual(ask(read(text), note("new", "T"), COUNT), [[63], [1], [64, 1001]])

    def test_one_that_went_is_new_again(self):
        told = ask(read(full([7] * 63 + [6])), note("new", "T"), note("r63", "T"))
        self.assertEqual(told, [[64], [1], [1]])

    def test_moments_are_without_a_sign(self):
        text = "4294967290\n" + "".join(f"r{n:02} T 4294967000 1\n" for n in range(63)) + "old T 5 1\n"
        after = text_after(read(text), note("new", "T"))
        self.assertTrue(after.startswith("4294967291\nnew T 4294967291 1\nr00 T 4294967000 1\n"))
        self.assertNotIn("old", after)


class RefusedTest(unittest.TestCase):
    TEXT = "9\nb B 4 1\nka K 4 6\n"
    AT_END = "4294967295\nb B 4 1\nka K 4 6\n"

    def refused(self, text, call, refusal):
        told = ask(read(text), call, WRITE, COUNT)
        clock = int(text.split("\n")[0])
        self.assertEqual(told, [[2], refusal, written(text), [2, clock]])

    def test_above_32_characters(self):
        for reading, text in (("r" * 33, "t"), ("r", "t" * 33), ("r" * 40, "t" * 40)):
            self.refused(self.TEXT, note(reading, text), TOO_LONG)

    def test_empty(self):
        for reading, text in (("", "t"), ("r", ""), ("", "")):
            self.refused(self.TEXT, note(reading, text), MAY_NOT_STAND)

    def test_what_may_not_stand_there(self):
        for stranger in STRANGERS + NO_CHARACTERS:
            self.refused(self.TEXT, note([stranger], "t"), MAY_NOT_STAND)
            self.refused(self.TEXT, note("r", [stranger]), MAY_NOT_STAND)
            self.refused(self.TEXT, note([107, 97, stranger], "K"), MAY_NOT_STAND)
            self.refused(self.TEXT, note("ka", [stranger, 75]), MAY_NOT_STAND)

    def test_clock_at_its_end(self):
        self.refused(self.AT_END, note("ka", "K"), CLOCK_AT_END)
        self.refused(self.AT_END, note("new", "N"), CLOCK_AT_END)

    def test_the_last_moment_is_still_noted(self):
        told = ask(read("4294967294\n"), note("ka", "K"), note("ka", "K"), WRITE)
        self.assertEqual(told, [[0], [1], CLOCK_AT_END, written("4294967295\nka K 4294967295 1\n")])

    def test_too_long_comes_before_all_else(self):
        self.refused(self.AT_END, note("r" * 33, ""), TOO_LONG)
        self.refused(self.AT_END, note("", "t" * 33), TOO_LONG)
        self.refused(self.AT_END, note([0] * 33, "t"), TOO_LONG)
        self.refused(self.AT_END, note([0xD800], [LAST_MOMENT] * 33), TOO_LONG)
        self.refused(self.AT_END, note("r" * 33, "t"), TOO_LONG)

    def test_what_may_not_stand_comes_before_the_clocks_end(self):
        self.refused(self.AT_END, note("", "t"), MAY_NOT_STAND)
        self.refused(self.AT_END, note("r", [0x20]), MAY_NOT_STAND)


if __name__ == "__main__":
    unittest.main()
