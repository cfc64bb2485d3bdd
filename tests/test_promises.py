"""The promises G1 to G6 and MAIN over drawn lists of all calls, and each line of "Wrong would be".

Here the program is held against its own answers alone: what it tells ahead of a call and behind it.
"""

import itertools
import random
import unittest

from helper import (
    CALLS, COUNT, LAST_MOMENT, NOT_REMEMBERED, PAIRS, READINGS, WRITE, ask, cost, counted, draw_calls, draw_sound_text,
    fault, forget, full, get, goes, join, note, of, read, text_after, written,
)


def things_of(text):
    """The clock, and the things in the order in which the memory's text has them."""
    clock, *lines = text.split("\n")[:-1]
    parts = [line.split(" ") for line in lines]
    return int(clock), [(reading, label, int(moment), int(often)) for reading, label, moment, often in parts]


def memories(number):
    """Drawn memories' texts, as they are written."""
    drawn = []
    for seed in range(number):
        draw = random.Random(seed)
        text = draw_sound_text(draw)
        noted = [note(*draw.choice(PAIRS)) for times in range(draw.choice([0, 0, 3, 70]))]
        drawn.append(text_after(read(text), *noted))
    return drawn


def steps(number):
    """Of drawn lists each call: its name, what's handed in, its answer, the texts ahead of it and behind it."""
    for seed in range(number):
        drawn = draw_calls(random.Random(seed + 5000))
        told = ask(WRITE, *[part for name, given in drawn for part in (CALLS[name](*given), WRITE)])
        texts = [bytes(answer[1:]).decode("utf-8") for answer in told[::2]]
        for (name, given), answer, before, after in zip(drawn, told[1::2], texts, texts[1:]):
            yield name, given, answer, before, after


class DrawnListsTest(unittest.TestCase):
    def test_g1_noted_a_thing_is_first_and_the_order_of_the_others_stays(self):
        for name, given, answer, before, after in steps(80):
            if name == "note" and answer[0] > 0:
                reading, text = ("".join(map(chr, part)) for part in given)
                clock, things = things_of(before)
                others = [thing for thing in things if thing[:2] != (reading, text)]
                noted = (reading, text, clock + 1, answer[0])
                self.assertEqual(things_of(after), (clock + 1, ([noted] + others)[:64]))

    def test_g1_forgotten_it_alone_is_gone(self):
        for name, given, answer, before, after in steps(80):
            if name == "forget" and answer == [0]:
                reading, text = ("".join(map(chr, part)) for part in given)
                clock, things = things_of(before)
                others = [thing for thing in things if thing[:2] != (reading, text)]
                self.assertEqual(len(others), len(things) - 1)
                self.assertEqual(things_of(after), (clock, others))

    def test_g6_refused_calls_change_nothing_and_tell_nothing_more(self):
        for name, given, answer, before, after in steps(80):
            if answer[0] < 0:
                self.assertEqual(after, before, (name, given))
                self.assertEqual(len(answer), 3 if answer[0] == -2 else 1)

    def test_calls_that_only_tell_change_nothing(self):
        for name, given, answer, before, after in steps(80):
            if name in ("write", "count", "get", "of", "goes", "cost"):
                self.assertEqual(after, before, (name, given))

    def test_what_is_remembered_is_always_a_memory_in_order(self):
        for name, given, answer, before, after in steps(80):
            clock, things = things_of(after)
            self.assertLessEqual(len(things), 64)
            self.assertEqual(len(things), len({thing[:2] for thing in things}))
            self.assertTrue(all(1 <= moment <= clock and 1 <= often <= 65535 for r, t, moment, often in things))
            self.assertEqual(things, sorted(things, key=lambda thing: (-thing[2], thing[0], thing[1])))

    def test_main_what_was_chosen_last_for_a_reading_comes_first_for_it(self):
        for seed in range(80):
            groups = []
            for name, given in draw_calls(random.Random(seed + 9000)):
                behind = [("of", (0, given[0])), ("goes", (0, given[0])), ("get", (0,))] if name == "note" else []
                groups.append([(name, given)] + behind)
            told = iter(ask(*[CALLS[name](*given) for group in groups for name, given in group]))
            for group in groups:
                answer, *answers_behind = [next(told) for call in group]
                if len(group) > 1 and answer[0] > 0:
                    rows = [number for part in group[0][1] for number in counted(part)]
                    self.assertEqual(answers_behind[:2], [[0], [0]])
                    self.assertEqual(answers_behind[2][3:], rows)


class DrawnMemoriesTest(unittest.TestCase):
    def test_g2_things_of_a_reading_are_told_whole_the_latest_first(self):
        for text in memories(60):
            things = things_of(text)[1]
            for reading in READINGS + ["", "abcd"]:
                for call, places in (
                    (of, [n for n, thing in enumerate(things) if thing[0] == reading]),
                    (goes, [n for n, thing in enumerate(things) if thing[0].startswith(reading)]),
                ):
                    told = ask(read(text), *[call(j, reading) for j in range(len(places) + 2)])
                    self.assertEqual(told[1:], [[place] for place in places] + [NOT_REMEMBERED] * 2)
                    moments = [things[place][2] for place in places]
                    self.assertEqual(moments, sorted(moments, reverse=True))

    def test_g3_and_main_it_does_not_matter_in_which_order_or_how_often(self):
        some = memories(90)
        for three in zip(some[::3], some[1::3], some[2::3]):
            expected = text_after(*[join(text) for text in three])
            for texts in itertools.product(three, repeat=3):
                told = text_after(*[join(text) for text in texts + three])
                self.assertEqual(told, expected)
            for first, second, third in itertools.permutations(three):
                self.assertEqual(text_after(read(first), join(second), join(third)), expected)
                together = text_after(read(second), join(third))
                self.assertEqual(text_after(read(first), join(together), join(together)), expected)

    def test_g3_a_memory_with_itself_is_itself(self):
        for text in memories(90):
            self.assertEqual(ask(read(text), join(text), WRITE)[2], written(text))

    def test_g3_nothing_is_later_than_what_either_had(self):
        some = memories(90)
        for one, other in zip(some, some[1:]):
            one_clock, one_things = things_of(one)
            other_clock, other_things = things_of(other)
            clock, things = things_of(text_after(read(one), join(other)))
            self.assertEqual(clock, max(one_clock, other_clock))
            for thing in things:
                had = [some for some in one_things + other_things if some[:2] == thing[:2]]
                self.assertEqual(thing, max(had, key=lambda some: some[2:]))

    def test_g4_cheaper_never_dearer_the_more_the_more_often(self):
        for c in list(range(40)) + [99, 100, 101, 32767, 32768, 65534, 65535]:
            for text in ("0\n", "9\na A 9 65533\n"):
                calls = []
                for times in range(6):
                    calls += [cost(c, "a", "A"), note("a", "A")]
                told = [answer[0] for answer in ask(read(text), *calls)[1::2]]
                self.assertEqual(told, sorted(told, reverse=True))
                self.assertTrue(all(0 <= number <= c for number in told))
                self.assertEqual(told[-1], c // 4)

    def test_g4_of_all_that_is_remembered_and_of_what_is_not(self):
        for text in memories(20):
            often = {thing[:2]: thing[3] for thing in things_of(text)[1]}
            told = ask(read(text), *[cost(1000, *pair) for pair in PAIRS])[1:]
            self.assertEqual(told, [[(1000, 750, 500, 250)[min(3, often.get(pair, 0))]] for pair in PAIRS])

    def test_g5_one_text_one_memory(self):
        for seed, text in enumerate(memories(60)):
            lines = text.splitlines(True)
            mixed = lines[1:]
            random.Random(seed).shuffle(mixed)
            calls = [COUNT, WRITE] + [get(i) for i in range(len(lines))] + [goes(i, "") for i in range(len(lines))]
            told = ask(read(text), *calls)
            self.assertEqual(told[2], written(text))
            self.assertEqual(ask(read(lines[0] + "".join(mixed)), *calls), told)
            self.assertEqual(ask(join(lines[0] + "".join(mixed)), *calls), told)

    def test_g5_what_differs_has_another_text(self):
        texts = [f"{clock}\n{reading} {text} {moment} {often}\n" for clock in (12, 122) for reading in ("a", "a1")
                 for text in ("1", "11") for moment in (1, 12) for often in (1, 12)]
        self.assertEqual(len({text_after(read(text)) for text in texts}), 32)


class WrongWouldBeTest(unittest.TestCase):
    def test_01_the_most_often_chosen_first(self):
        told = ask(note("a", "A"), note("a", "A"), note("a", "B"), of(0, "a"), get(0), WRITE)
        self.assertEqual(told[3:], [[0], [0, 3, 1, 1, 97, 1, 66], written("3\na B 3 1\na A 2 2\n")])
        self.assertEqual(text_after(join("9\na A 2 7\na B 3 1\n")), "9\na B 3 1\na A 2 7\n")

    def test_02_how_often_added_up_when_put_together(self):
        other = join("9\na A 9 2\n")
        self.assertEqual(ask(note("a", "A"), other, other, WRITE)[3], written("9\na A 9 2\n"))
        self.assertEqual(ask(note("a", "A"), other, note("a", "A"), cost(100, "a", "A"))[2:], [[3], [25]])

    def test_03_the_one_with_more_counted_wins_though_it_is_earlier(self):
        for one, other in itertools.permutations(["9\na A 7 900\n", "9\na A 8 2\n"]):
            self.assertEqual(text_after(read(one), join(other)), "9\na A 8 2\n")

    def test_04_the_oldest_of_65_by_place_or_the_new_one_gone(self):
        text = full([5] + [9] * 63)
        for call in (note("new", "N"), join("1001\nnew N 1001 1\n")):
            after = text_after(read(text), call)
            self.assertTrue(after.startswith("1001\nnew N 1001 1\nr01 T 9 1\n"))
            self.assertTrue(after.endswith("r63 T 9 1\n"))
            self.assertNotIn("r00", after)

    def test_05_the_clock_left_behind_when_put_together(self):
        told = ask(note("a", "A"), join("50\nb B 40 1\n"), note("a", "A"), get(0), COUNT)
        self.assertEqual(told[2:], [[2], [0, 51, 2, 1, 97, 1, 65], [2, 51]])

    def test_06_forgotten_for_all_texts_of_the_reading(self):
        told = ask(note("a", "A"), note("a", "B"), note("a", "C"), forget("a", "B"), of(0, "a"), of(1, "a"), of(2, "a"))
        self.assertEqual(told[3:], [[0], [0], [1], NOT_REMEMBERED])

    def test_07_65536_as_0(self):
        text = "70000\na A 65535 65535\n"
        self.assertEqual(ask(read(text), note("a", "A"), cost(100, "a", "A"))[1:], [[65535], [25]])
        self.assertEqual(ask(cost(65536, "a", "A"), cost(65535, "a", "A")), [[-1], [65535]])
        self.assertEqual(ask(read("9\na A 9 65536\n"), join("9\na A 9 65536\n")), [fault(1, 2)] * 2)
        self.assertEqual(ask(read("65535\n"), note("a", "A"), join("65536\nb B 65536 1\n"), WRITE)[3],
                         written("65536\na A 65536 1\nb B 65536 1\n"))

    def test_08_moments_compared_with_a_sign(self):
        for earlier, later in ((9, 2147483648), (2147483647, 2147483648), (1, LAST_MOMENT), (2147483648, LAST_MOMENT)):
            text = f"{LAST_MOMENT}\nb B {later} 1\na A {earlier} 1\n"
            self.assertEqual(ask(read(text), WRITE)[1], written(text))
            two = [f"{LAST_MOMENT}\na A {moment} 1\n" for moment in (earlier, later)]
            self.assertEqual(text_after(read(two[0]), join(two[1])), two[1])
            self.assertEqual(text_after(read(two[1]), join(two[0])), two[1])

    def test_09_the_reading_itself_left_out_of_those_that_begin_so(self):
        self.assertEqual(ask(note("a", "A"), note("ab", "B"), goes(0, "a"), goes(1, "a"), goes(2, "a"))[2:],
                         [[0], [1], NOT_REMEMBERED])

    def test_10_rounded_up(self):
        cases = ((1, 1, 0), (1, 2, 1), (1, 3, 2), (1, 5, 3), (2, 1, 0), (2, 3, 1), (3, 1, 0), (3, 7, 1))
        for often, c, expected in cases:
            self.assertEqual(ask(read(f"9\na A 9 {often}\n"), cost(c, "a", "A"))[1], [expected])

    def test_11_a_moment_above_the_clock_read(self):
        for call in (read, join):
            told = ask(note("a", "A"), call("9\nb B 9 1\na A 10 1\n"), WRITE)
            self.assertEqual(told[1:], [fault(2, 2), written("1\na A 1 1\n")])

    def test_12_lines_as_they_were_read(self):
        for call in (read, join):
            self.assertEqual(text_after(call("9\na A 1 1\nc C 5 1\nb B 5 1\n")), "9\nb B 5 1\nc C 5 1\na A 1 1\n")


if __name__ == "__main__":
    unittest.main()
