"""The call read: which texts are a memory's, and what fault the others have, for join too."""

import unittest

from helper import COUNT, TOO_LONG, WRITE, ask, fault, get, join, note, read, text_after, written

# The object that a refused read or join finds, and leaves as it is.
BEFORE = [note("ka", "K"), note("ka", "Q"), note("ka", "K")]
BEFORE_TEXT = "3\nka K 3 2\nka Q 2 1\n"


def things(number):
    return "".join(f"r{place} T 1 1\n" for place in range(number))


class ReadTest(unittest.TestCase):
    def test_how_many_things(self):
        for number in (0, 1, 2, 63, 64):
            self.assertEqual(ask(read("9\n" + things(number)), COUNT), [[number], [number, 9]])

    def test_what_was_remembered_is_gone(self):
        told = ask(*BEFORE, read("9\nb B 4 7\n"), COUNT, get(0), get(1), WRITE)
        self.assertEqual(told[3:], [[1], [1, 9], [0, 4, 7, 1, 98, 1, 66], [-4], written("9\nb B 4 7\n")])

    def test_an_empty_memory(self):
        self.assertEqual(ask(*BEFORE, read("0\n"), COUNT)[3:], [[0], [0, 0]])

    def test_the_greatest_that_is_allowed(self):
        text = f"4294967295\n{'r' * 32} {'t' * 32} 4294967295 65535\n"
        self.assertEqual(ask(read(text), WRITE), [[1], written(text)])

    def test_the_least_that_is_allowed(self):
        self.assertEqual(ask(read("1\n! ! 1 1\n"), WRITE), [[1], written("1\n! ! 1 1\n")])

    def test_32_characters_of_four_bytes_each(self):
        text = "1\n" + "\U0010ffff" * 32 + " " + "\U00010000" * 32 + " 1 1\n"
        self.assertEqual(ask(read(text), WRITE), [[1], written(text)])

    def test_rows_that_look_like_numbers(self):
        text = "9\n4 05 3 1\n-0 +1 2 1\n"
        self.assertEqual(ask(read(text), WRITE), [[2], written(text)])

    def test_only_a_line_feed_ends_a_line(self):
        text = "9\n\u0085 \u2028\u2029 3 1\n\ufeff \u00a0\u3000 2 1\n"
        self.assertEqual(ask(read(text), WRITE), [[2], written(text)])

    def test_same_reading_or_same_text_are_two_things(self):
        self.assertEqual(ask(read("9\na A 1 1\na B 1 1\nb A 1 1\naA A 1 1\na AA 1 1\n")), [[5]])


class FaultTest(unittest.TestCase):
    def refused(self, text, line, kind):
        for call in (read, join):
            told = ask(*BEFORE, call(text), WRITE, COUNT)
            self.assertEqual(told[3:], [fault(line, kind), written(BEFORE_TEXT), [2, 3]], text)

    def test_no_first_line(self):
        self.refused("", 0, 1)

    def test_a_line_without_its_line_feed(self):
        self.refused("5", 0, 1)
        self.refused("4294967296", 0, 1)
        self.refused("5\na A 1 1", 1, 1)
        self.refused("5\na A 1 1\n ", 2, 1)
        self.refused("5\na A 1 1\na A 1 1", 2, 1)
        self.refused("5\n" + things(64) + "r64 T 1 1", 65, 1)

    def test_first_line_is_no_number(self):
        for line in ("", "a", "-5", "+5", " 5", "5 ", "5 5", "5a", "5\r", "5.0", "0x5", "5_0", "\t5", "\u0665",
                     "\u00b2", "/", ":", "5/", "5:", "\uff15", "\ufeff5"):
            self.refused(line + "\n", 0, 1)
            self.refused(line + "\na A 1 1\n", 0, 1)

    def test_a_leading_0(self):
        self.refused("00\n", 0, 1)
        self.refused("05\n", 0, 1)
        self.refused("5\na A 01 1\n", 1, 1)
        self.refused("5\na A 1 01\n", 1, 1)
        self.refused("5\na A 00 1\n", 1, 1)
        self.refused("5\na A 1 00\n", 1, 1)

    def test_a_sign_too_many(self):
        for numbers in ("+1 1", "1 +1", "-1 1", "1 -1", "1 1.", "1, 1", "1_0 1", "1 1\r", "1\t1", "\u0661 1", "1 \u00b9",
                        "/ 1", "1 :", "1/ 1", "1 1:", "x 1", "1 x"):
            self.refused(f"55\na A {numbers}\n", 1, 1)

    def test_a_blank_too_many(self):
        for line in (" a A 1 1", "a  A 1 1", "a A  1 1", "a A 1  1", "a A 1 1 ", "a b A 1 1", "a A 1 1 1"):
            self.refused(f"5\n{line}\n", 1, 1)

    def test_a_part_too_few(self):
        for line in ("", " ", "a", "a A", "a A 1", "a A 1 ", "a A  1", "5", "   "):
            self.refused(f"5\n{line}\n", 1, 1)

    def test_a_row_of_none(self):
        self.refused("5\n A 1 1\n", 1, 1)
        self.refused("5\na  1 1\n", 1, 1)
        self.refused("5\n  1 1\n", 1, 1)

    def test_what_may_not_stand_in_a_row(self):
        for number in list(range(0x0A)) + list(range(0x0B, 0x20)) + [0x7F]:
            self.refused(f"5\n{chr(number)} A 1 1\n", 1, 1)
            self.refused(f"5\na{chr(number)} A 1 1\n", 1, 1)
            self.refused(f"5\na {chr(number)} 1 1\n", 1, 1)
            self.refused(f"5\na A{chr(number)}B 1 1\n", 1, 1)

    def test_more_than_32_characters(self):
        self.refused(f"5\n{'r' * 33} A 1 1\n", 1, 2)
        self.refused(f"5\na {'t' * 33} 1 1\n", 1, 2)
        self.refused("5\n" + "\U0010ffff" * 33 + " A 1 1\n", 1, 2)
        self.refused(f"5\na {'t' * 20000} 1 1\n", 1, 2)

    def test_a_clock_above_its_end(self):
        self.refused("4294967296\n", 0, 2)
        self.refused("10000000000\na A 1 1\n", 0, 2)
        self.refused("18446744073709551617\n", 0, 2)
        self.refused("9" * 29000 + "\n", 0, 2)
        self.refused("1" + "0" * 29000 + "\n", 0, 2)

    def test_a_moment_of_0_or_above_the_clock(self):
        self.refused("5\na A 0 1\n", 1, 2)
        self.refused("0\na A 0 1\n", 1, 2)
        self.refused("0\na A 1 1\n", 1, 2)
        self.refused("5\na A 5 1\nb B 6 1\n", 2, 2)
        self.refused("4294967295\na A 4294967296 1\n", 1, 2)
        self.refused("4294967295\na A 4294967297 1\n", 1, 2)
        self.refused(f"4294967295\na A {'7' * 20000} 1\n", 1, 2)

    def test_how_often_0_or_above_65535(self):
        self.refused("5\na A 1 0\n", 1, 2)
        self.refused("5\na A 1 65536\n", 1, 2)
        self.refused("5\na A 1 65537\n", 1, 2)
        self.refused("5\na A 1 4294967297\n", 1, 2)
        self.refused(f"5\na A 1 {'7' * 20000}\n", 1, 2)

    def test_the_same_reading_and_text_twice(self):
        self.refused("5\na A 1 1\na A 1 1\n", 2, 3)
        self.refused("5\na A 1 1\nb B 2 1\na A 3 7\n", 3, 3)
        self.refused("5\n" + things(63) + "r0 T 2 2\n", 64, 3)

    def test_the_65th_thing(self):
        self.refused("5\n" + things(65), 65, 4)
        self.refused("5\n" + things(100), 65, 4)

    def test_of_a_line_the_least_kind(self):
        self.refused(f"5\n{'r' * 33} A 1 01\n", 1, 1)
        self.refused(f"5\n{'r' * 33} A\x7f 1 1\n", 1, 1)
        self.refused("5\na A 6 1 \n", 1, 1)
        self.refused("5\na A 0 00\n", 1, 1)
        self.refused("4294967296 \n", 0, 1)
        self.refused("5\na A 1 1\na A 1 01\n", 2, 1)
        self.refused("5\na A 1 1\na A 6 1\n", 2, 2)
        self.refused("5\na A 1 1\na A 1 65536\n", 2, 2)
        self.refused("5\n" + things(64) + "\n", 65, 1)
        self.refused("5\n" + things(64) + "r64 T 6 1\n", 65, 2)
        self.refused("5\n" + things(64) + "r7 T 1 1\n", 65, 3)

    def test_of_several_lines_the_first(self):
        self.refused("x\na A 0 1\n", 0, 1)
        self.refused("4294967296\n\n", 0, 2)
        self.refused("5\na A 0 1\n\n", 1, 2)
        self.refused("5\na A 1 1\na A 1 1\nb B 0 1\n\n", 2, 3)
        self.refused("5\n" + things(65) + "\n", 65, 4)
        self.refused("5\na A 9 1\nb B 1 1", 1, 2)
        self.refused("5\n\n\n", 1, 1)

    def test_after_a_fault_the_object_still_takes_calls(self):
        for call in (read, join):
            told = ask(*BEFORE, call("9\nb B 1 1\nx\n"), note("ka", "Q"), WRITE)
            self.assertEqual(told[3:], [fault(2, 1), [2], written("4\nka Q 4 2\nka K 3 2\n")])

    def test_a_text_above_65536_bytes(self):
        # The interface hands in no such text; the document tells what one is answered.
        for text in ("x" * 65537, "5\n" + "\n" * 65535):
            for call in (read, join):
                self.assertEqual(ask(*BEFORE, call(text), WRITE)[3:], [TOO_LONG, written(BEFORE_TEXT)])
        self.refused("x" * 65536, 0, 1)


def is_utf_8(sequence):
    try:
        bytes(sequence).decode("utf-8")
    except UnicodeDecodeError:
        return False
    return True


class Utf8Test(unittest.TestCase):
    def read_all(self, sequences):
        """Each sequence as a thing's reading: read just where Python's own strict decoder reads it."""
        for start in range(0, len(sequences), 500):
            some = sequences[start:start + 500]
            told = ask(*[read(b"5\nb B 3 3\n" + bytes(sequence) + b"r A 2 1\n") for sequence in some])
            expected = [[2] if is_utf_8(sequence) else fault(2, 1) for sequence in some]
            self.assertEqual(told, expected)

    def test_single_bytes_and_pairs(self):
        self.read_all([[first] for first in range(0x80, 0x100)])
        self.read_all([[first, second] for first in range(0x80, 0x100)
                       for second in (0x21, 0x7E, 0x80, 0x81, 0x9F, 0xA0, 0xBF, 0xC0, 0xC2, 0xE0, 0xFF)])

    def test_threes_and_fours(self):
        edges = (0x41, 0x7E, 0x80, 0x8F, 0x90, 0x9F, 0xA0, 0xBF, 0xC0, 0xFF)
        for first in list(range(0xE0, 0x100)) + [0xC2]:
            self.read_all([[first, second, third] for second in edges for third in edges])
            self.read_all([[first, second, third, 0x80] for second in edges for third in edges])
            self.read_all([[first, second, 0xBF, fourth] for second in edges for fourth in edges])

    def test_longer_forms_of_old(self):
        self.read_all([[0xF8, 0x88, 0x80, 0x80, 0x80], [0xFC, 0x84, 0x80, 0x80, 0x80, 0x80]])

    def test_named_wrong_forms(self):
        overlong = [b"\xc1\xa1", b"\xc0\xa0", b"\xe0\x81\xa1", b"\xe0\x9f\xbf", b"\xf0\x80\x81\xa1", b"\xf0\x8f\xbf\xbf"]
        surrogates = [b"\xed\xa0\x80", b"\xed\xbf\xbf", b"\xed\xa0\xbd\xed\xb8\x80"]
        above = [b"\xf4\x90\x80\x80", b"\xf7\xbf\xbf\xbf", b"\xf5\x80\x80\x80"]
        for wrong in overlong + surrogates + above:
            self.assertEqual(ask(read(b"5\n" + wrong + b" A 1 1\n")), [fault(1, 1)], wrong)
            self.assertEqual(ask(read(b"5\na A" + wrong + b" 1 1\n")), [fault(1, 1)], wrong)

    def test_right_forms(self):
        for right in (b"\xc2\x80", b"\xdf\xbf", b"\xe0\xa0\x80", b"\xed\x9f\xbf", b"\xee\x80\x80", b"\xef\xbf\xbf",
                      b"\xf0\x90\x80\x80", b"\xf4\x8f\xbf\xbf"):
            text = b"5\n" + right + b" A" + right + b" 1 1\n"
            self.assertEqual(ask(read(text), WRITE), [[1], written(text)], right)

    def test_cut_off_by_a_blank_a_line_feed_or_the_end(self):
        for cut in (b"\xc2", b"\xe3\x81", b"\xf0\x9f\x98"):
            self.assertEqual(ask(read(b"5\n" + cut + b" A 1 1\n")), [fault(1, 1)])
            self.assertEqual(ask(read(b"5\na A 1 1" + cut + b"\nb B 1 1\n")), [fault(1, 1)])
            self.assertEqual(ask(read(b"5\na A 1 1\n" + cut)), [fault(2, 1)])
            self.assertEqual(ask(read(b"5" + cut + b"\n")), [fault(0, 1)])
            self.assertEqual(ask(read(cut + b"5\n")), [fault(0, 1)])

    def test_characters_are_counted_not_bytes(self):
        for sign in ("\u00e9", "\u3042", "\U0001f600"):
            self.assertEqual(ask(read(f"5\n{sign * 32} {sign * 32} 1 1\n")), [[1]])
            self.assertEqual(ask(read(f"5\n{sign * 33} {sign * 32} 1 1\n")), [fault(1, 2)])

    def test_a_combining_sign_makes_another_reading(self):
        text = "5\ne\u0301 A 1 1\n\u00e9 A 1 1\n"
        self.assertEqual(text_after(read(text)), text)


if __name__ == "__main__":
    unittest.main()
