"""judge and sizes of songs, and what both promise of any call."""

import unittest

from lutesettings.songs import judge, sizes
from reference import LONGEST, as_bytes, of_bytes, song_fault

SIGNS = (("x", 1), ("t", 2), ("s", 4), ("e", 8), ("q", 16), ("h", 32), ("w", 64),
         ("t.", 3), ("s.", 6), ("e.", 12), ("q.", 24), ("h.", 48), ("w.", 96))


class Answers(unittest.TestCase):
    def check(self, text, lines, counts):
        self.assertEqual(judge(as_bytes(text)), [lines], text)
        self.assertEqual(sizes(as_bytes(text)), counts, text)

    def test_a_song(self):
        self.check("song\nq 2^-1 3\n 1, 2^-1 3, 2\n|\ne. .\n 2^7/12\n|\n", 6, [4, 2, 5, 56])

    def test_a_moment_alone(self):
        self.check("song\nx .\n", 1, [1, 0, 0, 1])
        self.check("song\nx 1\n", 1, [1, 0, 1, 1])

    def test_every_length_sign(self):
        for sign, length in SIGNS:
            self.check(f"song\n{sign} 2\n", 1, [1, 0, 1, length])
            self.check(f"song\n{sign} 2\n .\n|\n 3\n", 4, [3, 1, 2, 3 * length])

    def test_every_length_sign_behind_every_other(self):
        for first, length in SIGNS:
            for second, other in SIGNS:
                if first != second:
                    self.check(f"song\n{first} .\n|\n{second} .\n .\n", 4, [3, 1, 0, length + 2 * other])

    def test_a_sign_comes_again_behind_another(self):
        self.check("song\nq .\nq. .\nq .\n", 3, [3, 0, 0, 56])

    def test_bars_anywhere(self):
        self.check("song\n|\n|\nq .\n|\n|\n .\n|\n", 7, [2, 5, 0, 32])

    def test_the_same_note_twice(self):
        self.check("song\nh 2^7/12, 2^7/12, 2^7/12\n", 1, [1, 0, 3, 32])
        self.check("song\nh 1, 1, 2, 2\n", 1, [1, 0, 4, 32])

    def test_powers_that_are_fractions(self):
        self.check("song\nh 5^-5/4 7^23/24, 2^-1/2 3^1/3, 2^3/2\n", 1, [1, 0, 3, 32])

    def test_powers_at_their_bounds(self):
        for note in ("2^99", "2^-99", "3^99", "5^-99", "7^99", "2^1/24", "7^-1/24", "2^99/23", "2^-99/23",
                     "2^33/8", "2^99 3^-99 5^99 7^-99", "2^1/3 3^1/8", "2^-1 3^2 5^3/2 7", LONGEST):
            self.check(f"song\nw {note}\n", 1, [1, 0, 1, 64])

    def test_every_factor_alone_and_all_together(self):
        for note in ("1", "2", "3", "5", "7", "2 3", "2 5", "2 7", "3 5", "3 7", "5 7", "2 3 5 7"):
            self.check(f"song\nw {note}\n", 1, [1, 0, 1, 64])

    def test_notes_from_narrow_to_wide(self):
        notes = "2^-99, 2^-1, 2^-1/24, 1, 2^1/12, 2^-3 3^2, 2^1/6, 2^-1 3, 2^7/12, 2, 3, 5, 7, 7^99"
        # The equal fifth is narrower than the true one.
        self.assertEqual(judge(as_bytes(f"song\nq {notes}\n"))[0], -6)
        notes = notes.replace("2^-1 3, 2^7/12", "2^7/12, 2^-1 3").replace("2^-3 3^2, 2^1/6", "2^1/6, 2^-3 3^2")
        self.check(f"song\nq {notes}\n", 1, [1, 0, 14, 16])


class Edges(unittest.TestCase):
    def test_as_many_bytes_as_may_be(self):
        text = of_bytes(65536)
        self.assertEqual(len(text), 65536)
        self.assertIsNone(song_fault(text))
        self.assertEqual(judge(as_bytes(text)), [text.count("\n") - 1])
        bars = text.count("|")
        moments = text.count("\n") - 1 - bars
        self.assertEqual(sizes(as_bytes(text)), [moments, bars, 14 * text.count(",") // 13, 16 * moments])

    def test_a_byte_more(self):
        text = of_bytes(65537)
        self.assertIsNone(song_fault(text))
        self.assertEqual(judge(as_bytes(text)), [-2])
        self.assertEqual(sizes(as_bytes(text)), [-2])

    def test_too_long_is_looked_at_first(self):
        for count in (65537, 65538, 100000, 110000):
            for s in ([0] * count, [32] * count, as_bytes("song\n")[:count] + [124, 10] * ((count - 5) // 2) + [1]):
                self.assertEqual(judge(s), [-2])
                self.assertEqual(sizes(s), [-2])

    def test_long_and_at_fault(self):
        self.assertEqual(judge([0] * 65536), [-6, 0])
        self.assertEqual(sizes([0] * 65536), [-6])
        blanks = as_bytes("song\nq 2") + [32] * 65528
        self.assertEqual(judge(blanks), [-6, 9])
        digits = as_bytes("song\nq 2^1") + [49] * 65526
        self.assertEqual(judge(digits), [-6, 13])

    def test_as_many_lines_as_may_be(self):
        text = "song\nx .\n" + "|\n .\n" * 255 + "|\n"
        self.assertEqual(judge(as_bytes(text)), [512])
        self.assertEqual(sizes(as_bytes(text)), [256, 256, 0, 256])

    def test_as_many_notes_as_may_be(self):
        text = "song\nq " + ", ".join(["2"] * 14) + "\n"
        self.assertEqual(sizes(as_bytes(text)), [1, 0, 14, 16])
        text = "song\nw. " + ("\n ").join([", ".join(["1"] * 14)] * 512) + "\n"
        self.assertEqual(judge(as_bytes(text)), [512])
        self.assertEqual(sizes(as_bytes(text)), [512, 0, 7168, 49152])


class EveryCall(unittest.TestCase):
    TEXTS = ("song\nq 1, 2\n|\n .\n", "song\nq 2, 1\n", "song\nq 2^1/2/\n", "", "song\n|\n", of_bytes(65537))

    def test_what_is_handed_in_stays(self):
        for text in self.TEXTS:
            for call in (judge, sizes):
                s = as_bytes(text)
                call(s)
                self.assertEqual(s, as_bytes(text))

    def test_nothing_is_kept(self):
        first = [(judge(as_bytes(text)), sizes(as_bytes(text))) for text in self.TEXTS]
        for answers in first:
            for answer in answers:
                answer.append(7)
        again = [(judge(as_bytes(text)), sizes(as_bytes(text))) for text in self.TEXTS]
        self.assertEqual([(a[:-1], b[:-1]) for a, b in first], again)
        backwards = [(judge(as_bytes(text)), sizes(as_bytes(text))) for text in reversed(self.TEXTS)]
        self.assertEqual(again, list(reversed(backwards)))

    def test_answers_are_lists_of_whole_numbers(self):
        for text in self.TEXTS:
            for call in (judge, sizes):
                answer = call(as_bytes(text))
                self.assertIs(type(answer), list)
                self.assertEqual([type(number) for number in answer], [int] * len(answer))


if __name__ == "__main__":
    unittest.main()
