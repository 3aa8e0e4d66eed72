"""Instruments' texts: which are taken, and where the others are at fault."""

import random
import unittest

from lutesettings.cursors import Fault
from lutesettings.instruments import read_instrument
from lutesettings.songs import of, ways
from reference import (LONGEST, as_bytes, chance_instrument, chance_piece, changed, instrument_text, of_answer,
                       piece_text, places_of)

SONG = "song\nq .\n"
PIECE = "french\nq ......\n"
LENGTH = "length 60000\n"
SEMITONES = ("2^1/12", "2^1/6", "2^1/4", "2^1/3", "2^5/12", "2^1/2", "2^7/12", "2^2/3", "2^3/4", "2^5/6", "2^11/12",
             "2", "2^13/12", "2^7/6", "2^5/4", "2^4/3")


class Instruments(unittest.TestCase):
    def check_taken(self, text):
        self.assertIsNotNone(places_of(text), text)
        self.assertEqual(of(as_bytes(text), as_bytes(PIECE)), [9] + as_bytes(SONG), text)
        self.assertEqual(ways(0, as_bytes(SONG), as_bytes(text)), [1], text)

    def check(self, text, place):
        """The text is refused, and at fault at this place."""
        self.assertIsNone(places_of(text), text)
        self.assertEqual(of(as_bytes(text), as_bytes(PIECE)), [-6], text)
        self.assertEqual(ways(0, as_bytes(SONG), as_bytes(text)), [-8], text)
        with self.assertRaises(Fault) as caught:
            read_instrument(as_bytes(text))
        self.assertEqual(caught.exception.place, place, text)

    def check_row(self, before, row, place):
        self.check(before + row, len(before) + place)


class Taken(Instruments):
    def test_ordinary_instruments(self):
        self.check_taken(instrument_text(SEMITONES[:8], ("2^2", "2^19/12", "2^7/6", "2^5/6", "2^5/12", "1"), ()))
        self.check_taken(instrument_text(("2^-3 3^2", "2^-2 5", "2^-1 3"), ("1", "2^-1"), ("2^-2", "2^-3 3")))

    def test_a_course_alone(self):
        self.check_taken(LENGTH + "course 1\n")
        self.check_taken(LENGTH + "course 2^-99\n")

    def test_lengths_at_their_bounds(self):
        for length in (10000, 10001, 99999, 100000, 199999, 200000):
            self.check_taken(instrument_text((), ("1",), (), length))

    def test_as_many_frets_as_may_be(self):
        self.check_taken(instrument_text(SEMITONES[:15], ("1",), ()))

    def test_as_many_courses_as_may_be(self):
        for courses in range(1, 15):
            self.check_taken(instrument_text(SEMITONES[:15], ["1"] * courses, ["2"] * (14 - courses)))

    def test_a_course_that_just_sounds_intervals(self):
        self.check_taken(instrument_text(("2", "2^2"), ("2^97", "2^-99"), ("2^99",)))
        self.check_taken(instrument_text(("2^1/3",), ("3^1/8", "5^-1/8"), ("2^1/23",)))
        self.check_taken(instrument_text(("2^-1 3",), ("2^-98 3^98", "2^99 3^-99"), ("2^99",)))

    def test_basses_need_not_sound_intervals_with_frets(self):
        self.check_taken(instrument_text(("2", "2^1/24 3"), ("1",), ("2^99", "2^1/23", "7^99")))

    def test_the_same_string_twice_and_in_any_order(self):
        self.check_taken(instrument_text((), ("1", "1", "7", "2^-1"), ("7", "1", "1")))

    def test_as_many_bytes_as_may_be(self):
        # Fifteen frets and fourteen courses are far fewer bytes: what has 4,096 is at fault, but not too long.
        text = instrument_text(SEMITONES[:15], [LONGEST.replace("/23", "")] * 14, ())
        self.assertLess(len(text), 4096)
        long = text + "\n" * (4096 - len(text))
        self.assertEqual(of(as_bytes(long), as_bytes(PIECE)), [-6])
        self.assertEqual(ways(0, as_bytes(SONG), as_bytes(long)), [-8])
        for count in (4097, 5000, 8192):
            long = as_bytes(text) + [10] * (count - len(text))
            self.assertEqual(of(long, as_bytes(PIECE)), [-2])
            self.assertEqual(ways(0, as_bytes(SONG), long), [-2])


class FirstLine(Instruments):
    def test_its_end_too_early(self):
        for length in range(len(LENGTH)):
            # A number that's not whole is looked at when no digit follows.
            self.check(LENGTH[:length], 7 if 8 <= length <= 11 else length)

    def test_another_byte(self):
        for place in range(7):
            for byte in ("Z", "\n", "0", "\x00", "\xff"):
                self.check(LENGTH[:place] + byte + LENGTH[place + 1:] + "course 1\n", place)

    def test_no_number(self):
        for told in ("", "\n", " 60000\n", "-60000\n", "060000\n", "0\n", "00\n", "a\n"):
            self.check("length " + told + "course 1\n", 7)

    def test_a_length_out_of_its_bounds(self):
        for told in ("1", "9999", "200001", "999999", "9999999", "1000000"):
            for behind in ("\ncourse 1\n", "", "Z", " \n"):
                self.check(f"length {told}{behind}", 7)

    def test_an_eighth_digit(self):
        for told in ("12345678", "10000000", "600000000"):
            self.check(f"length {told}\ncourse 1\n", 14)

    def test_behind_the_length(self):
        for behind in ("", " \n", ".\n", "Z"):
            self.check("length 60000" + behind, 12)


class Words(Instruments):
    def test_no_course(self):
        self.check(LENGTH, 13)
        text = instrument_text(SEMITONES[:3], (), ())
        self.check(text, len(text))
        text = instrument_text(SEMITONES[:15], (), ())
        self.check(text, len(text))

    def test_a_word_that_cannot_stand(self):
        for row in ("bass 1\n", "bass", "b", "\n", "length 60000\n", " ", "Fret 2\n", "|", "\x00"):
            self.check_row(LENGTH, row, 0)
            self.check_row(LENGTH + "fret 2\n", row, 0)
        for row in ("fret 2\n", "f", "\n", "length 60000\n", " ", "C"):
            self.check_row(LENGTH + "course 1\n", row, 0)
        for row in ("fret 2\n", "course 1\n", "f", "c", "\n", "length 60000\n"):
            self.check_row(LENGTH + "course 1\nbass 1\n", row, 0)

    def test_the_rest_of_a_word(self):
        for before, word in ((LENGTH, "fret"), (LENGTH, "course"), (LENGTH + "fret 2\n", "fret"),
                             (LENGTH + "fret 2\n", "course"), (LENGTH + "course 1\n", "course"),
                             (LENGTH + "course 1\n", "bass"), (LENGTH + "course 1\nbass 1\n", "bass")):
            for length in range(1, len(word) + 1):
                for behind in ("", "Z", "\n", "z 1\n"):
                    self.check_row(before, word[:length] + behind, length)

    def test_a_sixteenth_fret(self):
        full = instrument_text(SEMITONES[:15], (), ())
        for row in ("fret 2^4/3\n", "fret 1\n", "fret", "fret ", "fretZ", "fret Z", "fret 2^4/3\ncourse 1\n"):
            self.check_row(full, row, 0)
        for row, place in (("f", 1), ("fre", 3), ("frZ", 2)):
            self.check_row(full, row, place)

    def test_a_fifteenth_course_or_bass(self):
        for courses in range(1, 15):
            full = instrument_text((), ["1"] * courses, ["2"] * (14 - courses))
            words = ("bass", "course") if courses == 14 else ("bass",)
            for word in words:
                for behind in (" 1\n", "", " ", "Z", " Z", "\n"):
                    self.check_row(full, word + behind, 0)
                self.check_row(full, word[:2], 2)
                self.check_row(full, word[:3] + "Z", 3)


class IntervalsOfLines(Instruments):
    FRONTS = (LENGTH + "fret ", LENGTH + "course ", LENGTH + "course 1\nbass ", LENGTH + "fret 2^1/24\nfret ",
              LENGTH + "fret 2^1/24\ncourse ", LENGTH + "course 1\ncourse ", LENGTH + "course 1\nbass 1\nbass ")

    def test_an_interval_at_fault(self):
        for front in self.FRONTS:
            for told, place in (("", 0), ("0", 0), ("4", 0), ("Z", 0), (" 2", 0), ("2 ", 2), ("2^", 2), ("2^-", 3),
                                ("2^1", 0), ("2^0", 0), ("2^2/4", 0), ("2^3/1", 0), ("3 2", 2), ("2 2", 2), ("1 2", 1),
                                ("2^100", 5), ("2^1/25", 6), ("2^12345", 6), ("2, 3", 1), ("2^3/", 4), ("2^3/2/", 5),
                                ("2" * 300, 1), ("2^" + "9" * 2000, 6)):
                for behind in ("\n", "", "\nZ", "\ncourse 1\n"):
                    self.check_row(front, told + behind, place)

    def test_an_interval_without_its_end(self):
        for front in self.FRONTS:
            for told in ("2", "2^-1 3", "2^7/12"):
                self.check_row(front, told, len(told))

    def test_a_fret_not_wider(self):
        for told in ("1", "2^-1", "2^-1/24", "2^-2 3", "2^-99"):
            for behind in ("\n", "", "\ncourse 1\n", "\nZ"):
                self.check_row(LENGTH + "fret ", told + behind, 0)
                self.check_row(LENGTH + "fret 2^-1 3\nfret ", told + behind, 0)
        for before, told in (("2", "2"), ("2", "2^23/24"), ("2^-1 3", "2^7/12"), ("2^1/23", "2^1/24"), ("3", "2")):
            self.check_row(LENGTH + f"fret {before}\nfret ", told + "\ncourse 1\n", 0)
            self.check_row(LENGTH + f"fret 2^1/24\nfret {before}\nfret ", told + "\ncourse 1\n", 0)

    def test_a_fret_is_looked_at_behind_its_interval(self):
        self.check_row(LENGTH + "fret 2\nfret ", "1 \n", 1)
        self.check_row(LENGTH + "fret 2\nfret ", "2^1/25\n", 6)

    def test_a_course_that_sounds_no_interval(self):
        for frets, told in ((("2",), "2^99"), (("2", "2^2"), "2^98"), (("2^1/12", "2"), "2^1/23"), (("2^1/24",), "2^5"),
                            (("2^1/2", "2"), "3^50"), (("2^-1 3",), "2^-99"), (("2^-1 3",), "3^99"),
                            (("2^1/5",), "2^1/7"), (("2^-98 7^98",), "2^-2")):
            front = instrument_text(frets, (), ())
            for behind in ("\n", "", "\nZ", "\nbass 1\n"):
                self.check_row(front + "course ", told + behind, 0)
                self.check_row(front + "course 1\ncourse ", told + behind, 0)
                # Each course with each fret, beyond the sixth too.
                self.check_row(front + "course 1\n" * 13 + "course ", told + behind, 0)


class Beside(unittest.TestCase):
    SIGNS = "0123456789^-/ \nfcblZ"

    def test_instruments_and_changed_instruments(self):
        chance = random.Random(61)
        taken = 0
        for _ in range(300):
            text = chance_instrument(chance)
            self.assertIsNotNone(places_of(text))
            piece = piece_text(chance.randrange(3), chance_piece(chance, places_of(text)))
            self.assertEqual(of(as_bytes(text), as_bytes(piece)), of_answer(text, piece), text)
            for _ in range(10):
                other = changed(text, chance, self.SIGNS)
                answer = of(as_bytes(other), as_bytes(piece))
                self.assertEqual(answer, of_answer(other, piece), (other, piece))
                self.assertEqual(ways(0, as_bytes(SONG), as_bytes(other)), [-8] if answer == [-6] else [1], other)
                taken += answer != [-6]
        self.assertGreater(taken, 300)

    def test_an_instrument_cut_anywhere(self):
        text = instrument_text(("2^1/12", "2^-3 3^2"), ("1", "2^-1"), ("2^-2",))
        for length in range(len(text)):
            taken = text[:length].endswith("\n") and "course" in text[:length]
            self.assertEqual(of(as_bytes(text[:length]), as_bytes(PIECE)) != [-6], taken, text[:length])

    def test_any_byte_anywhere(self):
        text = "length 60000\nfret 2^1/12\ncourse 2\nbass 1\n"
        for place in range(len(text)):
            for byte in range(256):
                other = text[:place] + chr(byte) + text[place + 1:]
                self.assertEqual(of(as_bytes(other), as_bytes(PIECE)), of_answer(other, PIECE), other)


if __name__ == "__main__":
    unittest.main()
