"""judge and sizes beside the reference: all short texts, and many songs with something changed in them."""

import itertools
import random
import unittest

from lutesettings.songs import judge, sizes
from lutesettings.songtexts import read_song
from reference import as_bytes, chance_song, changed, interval_fault, interval_of, interval_text, song_fault, song_text

FRONT = "song\nq "


class Beside(unittest.TestCase):
    SIGNS = "0123456789^-/ ,.|\nxtseqhwZ"

    def check(self, text):
        fault = song_fault(text)
        answer = judge(as_bytes(text))
        if fault is None:
            self.assertEqual(answer, [text.count("\n") - 1], repr(text))
        else:
            self.assertEqual(answer, [-6, fault], repr(text))
            self.assertEqual(sizes(as_bytes(text)), [-6], repr(text))

    def test_all_short_intervals_texts(self):
        for signs, most in (("01235^-/ ", 4), ("12^/ ", 6), ("23^-10", 6)):
            for length in range(most + 1):
                for note in itertools.product(signs, repeat=length):
                    self.check(FRONT + "".join(note) + "\n")

    def test_all_short_powers(self):
        for length in range(6):
            for power in itertools.product("0124/-", repeat=length):
                self.check(FRONT + "2^" + "".join(power) + "\n")

    def test_all_fractions_of_one_factor(self):
        for n in range(-110, 111):
            for d in range(30):
                self.check(f"{FRONT}3^{n}/{d}\n")

    def test_all_short_lines(self):
        for length in range(6):
            for row in itertools.product("xq. |\n2,", repeat=length):
                self.check("song\nq .\n" + "".join(row))
                self.check("song\n" + "".join(row))

    def test_songs_and_changed_songs(self):
        chance = random.Random(6)
        for _ in range(1500):
            text = song_text(chance_song(chance))
            self.assertIsNone(song_fault(text))
            self.check(text)
            for _ in range(2):
                self.check(changed(changed(text, chance, self.SIGNS), chance, self.SIGNS))
                self.check(changed(text, chance, self.SIGNS))

    def test_a_song_cut_anywhere(self):
        chance = random.Random(7)
        for _ in range(20):
            text = song_text(chance_song(chance))
            for length in range(len(text)):
                self.check(text[:length])

    def test_any_byte_anywhere(self):
        text = "song\nq. 2^-1 3, 2^7/12 5\n|\nx .\n 1\n"
        for place in range(len(text)):
            for byte in range(256):
                self.check(text[:place] + chr(byte) + text[place + 1:])


class OneToOne(unittest.TestCase):
    def test_a_text_tells_its_song(self):
        chance = random.Random(8)
        for _ in range(500):
            lines = chance_song(chance)
            told = [(0, []) if line is None else (line[0], [tuple(note) for note in line[1]]) for line in lines]
            text = as_bytes(song_text(lines))
            self.assertEqual(read_song(text), told)
            moments = [line for line in lines if line is not None]
            notes = sum(len(line[1]) for line in moments)
            length = sum(line[0] for line in moments)
            self.assertEqual(sizes(text), [len(moments), len(lines) - len(moments), notes, length])

    def test_an_interval_has_one_text(self):
        found = 0
        for length in range(1, 7):
            for signs in itertools.product("123^-/ ", repeat=length):
                note = "".join(signs)
                if judge(as_bytes(FRONT + note + "\n")) == [1]:
                    found += 1
                    self.assertIsNone(interval_fault(note))
                    self.assertEqual(interval_text(interval_of(note)), note)
        self.assertGreater(found, 50)


if __name__ == "__main__":
    unittest.main()
