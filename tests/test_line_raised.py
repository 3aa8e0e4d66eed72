"""line and raised: songs' lines, and songs raised."""

import random
import unittest

from lutesettings.songs import judge, line, raised
from reference import (LONGEST, SIGNS, as_bytes, chance_interval, chance_song, interval_of, interval_text, is_interval,
                       line_answer, of_bytes, opposite, raised_answer, song_text, sum_of)

TOO_LONG = as_bytes(of_bytes(65537))
UNISON = [0, 0, 0, 0, 1]
FIFTH = [-1, 1, 0, 0, 1]
# Lists that are no interval: too few or too many numbers, bounds passed, a common factor, d no part of anything.
NO_INTERVALS = (
    [], [0], [0, 0, 0, 1], [1, 0, 0, 0], [0, 0, 0, 0, 1, 1], [0] * 8, [0, 0, 0, 0, 1, 0, 0, 0],
    [0, 0, 0, 0, 0], [1, 0, 0, 0, 0], [1, 0, 0, 0, -1], [0, 0, 0, 0, -1], [1, 0, 0, 0, -24],
    [1, 0, 0, 0, 25], [1, 1, 1, 1, 48], [0, 0, 0, 0, 2], [0, 0, 0, 0, 24], [2, 0, 0, 0, 2], [2, 4, 6, 8, 2],
    [-3, 0, 0, 99, 3], [24, 0, 0, 0, 24], [12, -6, 0, 18, 24],
    [100, 0, 0, 0, 1], [-100, 0, 0, 0, 1], [0, 100, 0, 0, 1], [0, 0, -100, 0, 1], [0, 0, 0, 101, 1], [100, 1, 0, 0, 3],
    [2147483647, 0, 0, 0, 1], [-2147483648, 0, 0, 0, 1], [0, 0, 0, -2147483648, 1], [0, 2147483647, 0, 0, 24],
    [0, 0, 0, 0, 2147483647], [0, 0, 0, 0, -2147483648], [1, 0, 0, 0, 2147483647], [1, 0, 0, 0, -2147483648],
    [2147483647] * 5, [-2147483648] * 5, [2147483647] * 8,
)


def told(text):
    """A text as it's answered."""
    return [len(text)] + as_bytes(text)


class Lines(unittest.TestCase):
    def check(self, text, answers):
        for k, answer in enumerate(answers):
            self.assertEqual(line(k, as_bytes(text)), answer, (text, k))
        for k in (len(answers), len(answers) + 1, 511, 512, 513, 65536, 2147483647):
            self.assertEqual(line(k, as_bytes(text)), [-4], (text, k))

    def test_a_song(self):
        self.check("song\n|\nq 2^-1 3\n 1, 2^-1 3, 2\n|\ne. .\n 2^7/12 5\n|\n .\n", [
            [0], [16, 1, -1, 1, 0, 0, 1], [16, 3, 0, 0, 0, 0, 1, -1, 1, 0, 0, 1, 1, 0, 0, 0, 1], [0],
            [12, 0], [12, 1, 7, 0, 12, 0, 12], [0], [12, 0]])

    def test_a_moment_alone(self):
        self.check("song\nx .\n", [[1, 0]])
        self.check("song\nw. 1\n", [[96, 1, 0, 0, 0, 0, 1]])

    def test_every_length_with_and_without_its_sign(self):
        for length, sign in SIGNS.items():
            self.check(f"song\n{sign} .\n|\n 7\n", [[length, 0], [0], [length, 1, 0, 0, 0, 1, 1]])

    def test_the_length_is_that_of_the_moment_before(self):
        self.check("song\nq .\n .\ne .\n|\n|\n .\nq .\n .\n",
                   [[16, 0], [16, 0], [8, 0], [0], [0], [8, 0], [16, 0], [16, 0]])

    def test_the_five_numbers(self):
        for note, numbers in (("1", UNISON), ("2", [1, 0, 0, 0, 1]), ("7^-99", [0, 0, 0, -99, 1]),
                              ("2^1/2 3^1/3 5^1/4 7", [6, 4, 3, 12, 12]), ("3^-1/24", [0, -1, 0, 0, 24]),
                              ("2^99 3^-99 5^99 7^-99", [99, -99, 99, -99, 1]), (LONGEST, [-99, -98, -97, -95, 23])):
            self.check(f"song\nq {note}\n", [[16, 1] + numbers])

    def test_many_notes(self):
        self.check("song\nq " + ", ".join(["2^1/2"] * 14) + "\n", [[16, 14] + [1, 0, 0, 0, 2] * 14])

    def test_as_many_lines_as_may_be(self):
        notes = ", ".join(["3^5/7"] * 14)
        text = as_bytes("song\nh " + notes + ("\n " + notes) * 511 + "\n")
        for k in (0, 1, 255, 511):
            self.assertEqual(line(k, text), [32, 14] + [0, 5, 0, 0, 7] * 14)
        self.assertEqual(line(512, text), [-4])
        bars = as_bytes("song\nh .\n" + "|\n" * 511)
        self.assertEqual([line(k, bars) for k in (0, 1, 511, 512)], [[32, 0], [0], [0], [-4]])

    def test_as_many_bytes_as_may_be(self):
        text = of_bytes(65536)
        lines = text.count("\n") - 1
        for k in (0, 1, lines - 1, lines, 2147483647):
            self.assertEqual(line(k, as_bytes(text)), line_answer(text, k))

    def test_songs_by_chance(self):
        chance = random.Random(51)
        for _ in range(300):
            text = song_text(chance_song(chance))
            for k in range(text.count("\n") + 1):
                self.assertEqual(line(k, as_bytes(text)), line_answer(text, k), (text, k))


class Raised(unittest.TestCase):
    def check(self, text, x, answer):
        self.assertEqual(raised(as_bytes(text), x), told(answer), (text, x))
        self.assertEqual(raised(as_bytes(answer), opposite(x)), told(text), (answer, x))

    def check_note(self, note, x, answer):
        self.check(f"song\nq {note}\n", x, f"song\nq {answer}\n")

    def test_a_song(self):
        self.check("song\n|\nq 2^-1 3\n 1, 2^-1 3, 2\n|\ne. .\n 2^7/12\n|\n", FIFTH,
                   "song\n|\nq 2^-2 3^2\n 2^-1 3, 2^-2 3^2, 3\n|\ne. .\n 2^-5/12 3\n|\n")

    def test_lengths_signs_and_bars_stay(self):
        text = "song\n|\n|\nx .\n .\nw. {0}\n|\n {0}, {0}\n .\n|\nx {0}\n|\n"
        self.check(text.format("2"), [0, 0, 0, 1, 1], text.format("2 7"))

    def test_by_the_unison(self):
        chance = random.Random(52)
        for _ in range(100):
            text = song_text(chance_song(chance))
            self.check(text, UNISON, text)

    def test_by_whole_powers(self):
        self.check_note("1", [1, 0, 0, 0, 1], "2")
        self.check_note("2", [1, 0, 0, 0, 1], "2^2")
        self.check_note("2", [-1, 0, 0, 0, 1], "1")
        self.check_note("2^-1", [2, 0, 0, 0, 1], "2")
        self.check_note("2 3 5 7", [-1, -2, 3, -4, 1], "3^-1 5^4 7^-3")
        self.check_note("1", [-99, 98, -97, 96, 1], "2^-99 3^98 5^-97 7^96")

    def test_powers_fall_away_and_come_in(self):
        self.check_note("2^-1 3", [1, 0, 0, 0, 1], "3")
        self.check_note("2^-1 3", [1, -1, 0, 0, 1], "1")
        self.check_note("2^1/2 3", [-1, 0, 0, 0, 2], "3")
        self.check_note("3", [0, 0, 1, 0, 1], "3 5")
        self.check_note("2^1/3 5^2/3", [-1, 0, -2, 1, 3], "7^1/3")

    def test_by_broken_powers(self):
        self.check_note("2^1/2", [1, 0, 0, 0, 2], "2")
        self.check_note("2^1/2", [1, 0, 0, 0, 3], "2^5/6")
        self.check_note("2^1/6", [1, 0, 0, 0, 3], "2^1/2")
        self.check_note("2^1/6", [1, 0, 0, 0, 6], "2^1/3")
        self.check_note("2^7/12", [5, 0, 0, 0, 12], "2")
        self.check_note("2^7/12", [-7, 0, 0, 0, 12], "1")
        self.check_note("2^7/12", [-31, 0, 0, 0, 12], "2^-2")
        self.check_note("2^1/8", [0, 1, 0, 0, 3], "2^1/8 3^1/3")
        self.check_note("2^1/8 3^1/3", [-1, 0, 0, 8, 8], "3^1/3 7")
        self.check_note("2^1/24", [1, 0, 0, 0, 24], "2^1/12")
        self.check_note("2^23/24", [1, 0, 0, 0, 24], "2")
        self.check_note("2^-1/24", [25, 0, 0, 0, 24], "2")

    def test_songs_without_a_note(self):
        for text in ("song\nx .\n", "song\n|\nq. .\n|\n .\ne .\n"):
            for x in (UNISON, FIFTH, [99, 99, 99, 99, 1], [-99, 1, 0, 0, 24], [0, 0, 0, 1, 24]):
                self.check(text, x, text)

    def test_a_power_just_within_its_bounds(self):
        self.check_note("2^98", [1, 0, 0, 0, 1], "2^99")
        self.check_note("5^-98", [0, 0, -1, 0, 1], "5^-99")
        self.check_note("7^-99", [0, 0, 0, 99, 1], "1")
        self.check_note("3^99/2", [0, 0, 0, 0, 1], "3^99/2")
        self.check_note("3^48", [0, 3, 0, 0, 2], "3^99/2")
        self.check_note("2^33 3", [0, 1, 0, 0, 3], "2^33 3^4/3")
        self.check_note("2^1/3", [0, 0, 0, 1, 8], "2^1/3 7^1/8")
        self.check_note("2^4", [0, 0, 0, 1, 24], "2^4 7^1/24")

    def test_a_note_would_be_no_interval(self):
        for note, x in (("2^99", [1, 0, 0, 0, 1]), ("5^-99", [0, 0, -1, 0, 1]), ("7^50", [0, 0, 0, 50, 1]),
                        ("3^99/2", [0, 1, 0, 0, 1]), ("3^48", [0, 5, 0, 0, 2]), ("2^34 3", [0, 1, 0, 0, 3]),
                        ("2^1/5", [1, 0, 0, 0, 7]), ("2^1/5", [0, 0, 0, 1, 6]), ("2^1/23", [1, 0, 0, 0, 2]),
                        ("2^1/24", [0, 1, 0, 0, 5]), ("2^5", [0, 0, 0, 1, 24]), ("2^99 7", [99, 0, 0, 0, 1]),
                        ("2^1/24", [1, 0, 0, 0, 23]), ("1, 2, 7^99", [0, 0, 0, 1, 1]),
                        ("7^-99, 1, 2", [0, 0, 0, -1, 1])):
            self.assertEqual(raised(as_bytes(f"song\nq {note}\n"), x), [-3], (note, x))
            self.assertEqual(raised(as_bytes(f"song\nq .\n|\n 1\n {note}\n"), x), [-3], (note, x))
            self.assertEqual(raised(as_bytes(f"song\nq {note}\n|\n 1\n"), x), [-3], (note, x))

    def test_no_interval(self):
        for x in NO_INTERVALS:
            for text in ("song\nq .\n", "song\nq 1\n", "song\nq 2^99\n"):
                self.assertEqual(raised(as_bytes(text), list(x)), [-1], (text, x))

    def test_just_an_interval(self):
        for x in ([99, 0, 0, 0, 1], [-99, 0, 0, 0, 1], [99, -99, 99, -99, 1], [1, 0, 0, 0, 24], [0, 0, 0, -1, 24],
                  [0, 98, 0, 99, 24], [99, 98, 97, -99, 23], UNISON):
            self.assertEqual(raised(as_bytes("song\nq 1\n"), x), told(f"song\nq {interval_text(x)}\n"))
            self.assertEqual(raised(as_bytes("song\nq .\n"), x), told("song\nq .\n"))

    def test_greatest_songs(self):
        notes = ", ".join(["2^1/24"] * 14)
        text = "song\nh " + notes + ("\n " + notes) * 511 + "\n"
        higher = text.replace("2^1/24", "2^1/12")
        self.check(text, [1, 0, 0, 0, 24], higher)
        text = of_bytes(65536)
        self.assertEqual(raised(as_bytes(text), UNISON), told(text))
        self.assertEqual(raised(as_bytes(text), [1, 1, 1, 1, 23]), raised_answer(text, [1, 1, 1, 1, 23]))
        self.assertEqual(raised(as_bytes(text), [0, 1, 1, 1, 2]), [-3])

    def test_what_is_answered_may_be_longer_than_what_may_be_handed_in(self):
        note = "3^1/23"
        text = "song\nh " + ("\n ").join([", ".join([note] * 14)] * 512) + "\n"
        x = [-99, -98, -97, -95, 23]
        answer = raised(as_bytes(text), x)
        self.assertGreater(answer[0], 110000)
        self.assertEqual(answer, raised_answer(text, x))

    def test_any_song_by_any_interval(self):
        chance = random.Random(53)
        both = 0
        for _ in range(1500):
            text = song_text(chance_song(chance))
            x = chance.choice((chance_interval(chance), [chance.randint(-9, 9), 0, 1, 0, chance.choice((1, 2, 3))]))
            answer = raised(as_bytes(text), x)
            self.assertEqual(answer, raised_answer(text, x), (text, x))
            if answer[0] >= 0:
                both += 1
                self.assertEqual(judge(answer[1:]), judge(as_bytes(text)))
                self.assertEqual(raised(answer[1:], opposite(x)), told(text), (text, x))
        self.assertGreater(both, 500)

    def test_any_interval_by_any_other(self):
        chance = random.Random(54)
        for _ in range(3000):
            y, x = chance_interval(chance), chance_interval(chance)
            higher = sum_of(x, y)
            answer = raised(as_bytes(f"song\nq {interval_text(y)}\n"), x)
            self.assertEqual(answer, told(f"song\nq {interval_text(higher)}\n") if is_interval(higher) else [-3])
            self.assertEqual(interval_of(interval_text(y)), y)


class Refusals(unittest.TestCase):
    def test_too_long_is_looked_at_first(self):
        for s in (TOO_LONG, [0] * 65537, [32] * 110000, as_bytes("song\n") + [124, 10] * 50000):
            for x in (UNISON, [], [100, 0, 0, 0, 1]):
                self.assertEqual(raised(s, x), [-2])
            for k in (0, 1, 2147483647):
                self.assertEqual(line(k, s), [-2])

    def test_no_song_is_looked_at_next(self):
        for text in ("", "song", "song\n", "song\n|\n", "song\nq 2, 1\n", "song\nq 2^100\n", "song\nq .\nq .\n",
                     "song\n" + "|\n" * 513, "song\nq 2^99\n\n", "\x00" * 65536):
            for x in (UNISON, [1, 0, 0, 0, 1], [], [100, 0, 0, 0, 1]):
                self.assertEqual(raised(as_bytes(text), x), [-6], text[:20])
            for k in (0, 1, 2147483647):
                self.assertEqual(line(k, as_bytes(text)), [-6], text[:20])

    def test_no_interval_is_looked_at_before_the_notes(self):
        for x in ([2, 0, 0, 0, 2], [100, 0, 0, 0, 1], [1, 0, 0, 0, 25], [1, 0, 0, 0]):
            self.assertEqual(raised(as_bytes("song\nq 2^99\n"), x), [-1])


class EveryCall(unittest.TestCase):
    TEXTS = ("song\nq 1, 2\n|\n .\n", "song\nq 2, 1\n", "song\nq 2^99\n", "", of_bytes(65537))
    LISTS = (UNISON, FIFTH, [1, 0, 0, 0, 1], [], [2, 0, 0, 0, 2], [0] * 8)

    def test_what_is_handed_in_stays(self):
        for text in self.TEXTS:
            for x in self.LISTS:
                s, handed = as_bytes(text), list(x)
                raised(s, handed)
                self.assertEqual((s, handed), (as_bytes(text), list(x)))
            for k in range(3):
                line(k, s)
                self.assertEqual(s, as_bytes(text))

    def answers(self):
        lines = [line(k, as_bytes(text)) for text in self.TEXTS for k in range(4)]
        return lines + [raised(as_bytes(text), list(x)) for text in self.TEXTS for x in self.LISTS]

    def test_nothing_is_kept(self):
        first = self.answers()
        copies = [list(answer) for answer in first]
        for answer in first:
            answer.append(7)
        self.assertEqual(self.answers(), copies)

    def test_answers_are_lists_of_whole_numbers(self):
        for answer in self.answers():
            self.assertIs(type(answer), list)
            self.assertEqual({type(number) for number in answer}, {int})


if __name__ == "__main__":
    unittest.main()
