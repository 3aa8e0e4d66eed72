"""ways: how many placings a moment's notes have on an instrument."""

import itertools
import random
import unittest
from math import comb, perm

from lutesettings.songs import of, ways
from reference import (as_bytes, chance_instrument, chance_piece, instrument_text, interval_text, of_bytes, piece_text,
                       places_of, placings_of, song_lines, step, steps)

# Frets at every step; courses five and four steps apart; basses below them.
LUTE = instrument_text(steps(*range(1, 13)), steps(24, 19, 14, 10, 5, 0), steps(-2, -3, -5, -7))
# Fourteen courses with frets, all with the same string.
ALIKE = instrument_text(steps(*range(1, 16)), ["1"] * 14, ())


def song_with(notes, number=0):
    """A song whose moment number so is these notes, among others."""
    return "song\nq .\n|\n" + " .\n|\n" * (number - 1) + " " + (", ".join(notes) or ".") + "\n|\n .\n"


def ways_of(notes, instrument=LUTE):
    answer = ways(1, as_bytes(song_with(notes, 1)), as_bytes(instrument))
    assert len(answer) == 1
    return answer[0]


class Ways(unittest.TestCase):
    def check(self, notes, count, instrument=LUTE):
        self.assertEqual(ways_of(notes, instrument), count, notes)

    def test_no_notes(self):
        for instrument in (LUTE, ALIKE, instrument_text((), ("1",), ())):
            self.check((), 1, instrument)

    def test_one_note_in_several_places(self):
        self.check(steps(24), 3)
        self.check(steps(26), 3)
        self.check(steps(12), 3)
        self.check(steps(18), 2)
        self.check(steps(13), 2)
        self.check(steps(-2), 1)
        self.check(steps(0), 1)
        self.check(steps(36), 1)

    def test_a_note_that_cannot_be_had(self):
        for notes in (steps(37), steps(-1), steps(-8), ("3",), ("2^-99",), ("2^1/24",), steps(0, 37), steps(-1, 24)):
            self.check(notes, 0)

    def test_the_same_note_twice(self):
        self.check(steps(18, 18), 1)
        self.check(steps(24, 24), 3)
        self.check(steps(24, 24, 24), 1)
        self.check(steps(24, 24, 24, 24), 0)
        self.check(steps(-2, -2), 0)

    def test_notes_that_cannot_be_had_together(self):
        # Both are on the lowest course with frets alone.
        self.check(steps(0, 1), 0)
        self.check(steps(0, 5), 1)
        self.check(steps(0, 5, 6), 0)

    def test_more_notes_than_courses(self):
        self.check(["1"] * 3, 0, instrument_text(("2",), ("1", "1"), ()))
        self.check(["1"] * 2, 1, instrument_text(("2",), ("1", "1"), ()))
        self.check(["1", "2"], 2, instrument_text(("2",), ("1", "1"), ()))
        self.check(["1"] * 14, 0, instrument_text((), ["1"] * 13, ()))

    def test_courses_from_seven_on_are_open_alone(self):
        self.check(["1"], 14, ALIKE)
        self.check(steps(1), 6, ALIKE)
        self.check(steps(15), 6, ALIKE)
        for count in range(15):
            self.check(["1"] * count, comb(14, count), ALIKE)
        for count in range(7):
            self.check(steps(*range(1, count + 1)), perm(6, count), ALIKE)
        self.check(steps(1, 2, 3, 4, 5, 6, 7), 0, ALIKE)
        self.check(["1"] * 8 + steps(1, 2, 3, 4, 5, 6), 720, ALIKE)
        self.check(["1"] * 9 + steps(1, 2, 3, 4, 5), 720, ALIKE)

    def test_fretted_courses_beyond_the_sixth(self):
        deep = instrument_text(steps(1, 2), steps(0, 0, 0, 0, 0, 0, 0, 5, 6), ())
        self.check(["1"], 7, deep)
        self.check(steps(1), 6, deep)
        self.check(steps(5), 1, deep)
        self.check(steps(6), 1, deep)
        self.check(steps(7), 0, deep)

    def test_basses_below_the_seventh_course(self):
        few = instrument_text(steps(1, 2), steps(0), steps(0, 1, 2, 2))
        self.check(["1"], 2, few)
        self.check(steps(1), 2, few)
        self.check(steps(2), 3, few)
        self.check(steps(0, 1, 2), 2 + 2 + 1 + 2, few)
        self.check(steps(3), 0, few)

    def test_no_fret(self):
        bare = instrument_text((), steps(0, 0, 5), steps(5, 5))
        self.check(["1"], 2, bare)
        self.check(steps(5, 5), 3, bare)
        self.check(steps(0, 5), 6, bare)
        self.check(steps(0, 0, 5, 5, 5), 1, bare)
        self.check(steps(1), 0, bare)

    def test_fifteen_frets(self):
        tall = instrument_text(steps(*range(1, 16)), steps(0, 1), ())
        for number in range(17):
            self.check(steps(number), (number < 16) + (number > 0), tall)
        self.check(steps(15, 16), 1, tall)
        self.check(steps(1, 1), 1, tall)
        self.check(steps(0, 0), 0, tall)

    def test_one_course(self):
        one = instrument_text(steps(1, 3), ("1",), ())
        self.assertEqual([ways_of(steps(number), one) for number in range(5)], [1, 1, 0, 1, 0])
        self.check(steps(0, 1), 0, one)

    def test_frets_of_many_sizes(self):
        just = instrument_text(("2^-3 3^2", "2^-2 5", "2^-1 3"), ("1", "2^-1 3"), ("2^-1",))
        self.check(["2^-1 3"], 2, just)
        self.check(["2^-4 3^3"], 1, just)
        self.check(["2^7/12"], 0, just)
        self.check(["2^-1", "2^-2 5", "2^-1 3"], 1, just)


class Moments(unittest.TestCase):
    SONG = as_bytes("song\n|\nq 1\n|\n|\n 2^1/12\n .\ne 2^5/12, 2\n|\n")

    def test_moments_alone_are_counted(self):
        lute = as_bytes(LUTE)
        self.assertEqual([ways(k, self.SONG, lute) for k in range(6)], [[1], [1], [1], [4], [-4], [-4]])
        for k in (7, 8, 512, 65536, 2147483647):
            self.assertEqual(ways(k, self.SONG, lute), [-4])

    def test_as_many_moments_as_may_be(self):
        song = as_bytes("song\nq 1\n" + " .\n" * 510 + " 2^2\n")
        lute = as_bytes(LUTE)
        self.assertEqual([ways(k, song, lute) for k in (0, 1, 510, 511, 512)], [[1], [1], [1], [3], [-4]])
        bars = as_bytes("song\n" + "|\n" * 511 + "q 2^2\n")
        self.assertEqual([ways(k, bars, lute) for k in (0, 1, 511, 512)], [[3], [-4], [-4], [-4]])


class Beside(unittest.TestCase):
    def test_songs_that_pieces_sound(self):
        chance = random.Random(65)
        for _ in range(250):
            instrument = chance_instrument(chance)
            places = places_of(instrument)
            song = bytes(of(as_bytes(instrument), as_bytes(piece_text(0, chance_piece(chance, places))))[1:])
            moments = [line[1] for line in song_lines(song.decode()) if line is not None]
            for k, notes in enumerate(moments):
                if len(notes) <= 5:
                    count = len(placings_of(places, notes))
                    self.assertGreater(count, 0)
                    self.assertEqual(ways(k, list(song), as_bytes(instrument)), [count], (song, k, instrument))
                else:
                    self.assertGreater(ways(k, list(song), as_bytes(instrument))[0], 0)

    def test_any_notes(self):
        chance = random.Random(66)
        for _ in range(300):
            instrument = chance_instrument(chance, most_frets=8, most_courses=6)
            places = places_of(instrument)
            sounds = list(places.values()) + [[1, 1, 0, 0, 1]]
            notes = [chance.choice(sounds) for _ in range(chance.randint(0, 4))]
            told = [interval_text(note) for note in notes]
            told = [text for _, text in sorted(zip([note[0] * 24 // note[4] + 24 * note[1] for note in notes], told))]
            answer = ways(0, as_bytes("song\nq " + (", ".join(told) or ".") + "\n"), as_bytes(instrument))
            if answer != [-6]:
                self.assertEqual(answer, [len(placings_of(places, notes))], (told, instrument))

    def test_every_placing_is_a_choice_of_stops(self):
        # By going through all choices of a stop or none on each course.
        small = instrument_text(steps(1, 2, 3, 5), steps(0, 2, 3), steps(2, 5))
        places = places_of(small)
        choices = [[None] + [stop for stop in places if stop[0] == course] for course in range(1, 6)]
        counts = {}
        for taken in itertools.product(*choices):
            notes = tuple(sorted(tuple(places[stop]) for stop in taken if stop is not None))
            counts[notes] = counts.get(notes, 0) + 1
        self.assertGreater(len(counts), 100)
        for notes, count in counts.items():
            told = [interval_text(note) for note in sorted(notes, key=lambda note: note[0] * 12 // note[4])]
            self.assertEqual(ways(0, as_bytes("song\nq " + (", ".join(told) or ".") + "\n"), as_bytes(small)), [count])


class Edges(unittest.TestCase):
    def test_the_most_placings(self):
        # Every note on every course, and each bass one of them: in good time.
        for count in range(1, 15):
            wide = instrument_text([step(number, 24) for number in range(1, 16)], [step(0, 24)] * 6,
                                   [step(number, 24) for number in range(1, 9)])
            notes = [step(number, 24) for number in range(1, count + 1)]
            # So many of the courses with frets take one, the basses the rest.
            expected = sum(perm(6, held) * comb(min(count, 8), count - held) for held in range(7) if held <= count)
            self.assertEqual(ways_of(notes, wide), expected)

    def test_the_greatest_song(self):
        text = of_bytes(65536)
        self.assertEqual(ways(1, as_bytes(text), as_bytes(LUTE)), [0])
        self.assertEqual(ways(0, as_bytes(text), as_bytes(LUTE)), [1])
        self.assertEqual(ways(512, as_bytes(text), as_bytes(LUTE)), [-4])

    def test_the_order_of_refusals(self):
        long_song, long_instrument = as_bytes(of_bytes(65537)), as_bytes(LUTE) + [10] * (4097 - len(LUTE))
        no_song, no_instrument = as_bytes("song\n"), as_bytes("length 60000\n")
        song, lute = as_bytes("song\nq 1\n"), as_bytes(LUTE)
        for k in (0, 1, 2147483647):
            for i in (lute, no_instrument, long_instrument, [0] * 8192):
                self.assertEqual(ways(k, long_song, i), [-2])
                self.assertEqual(ways(k, [0] * 110000, i), [-2])
            for s in (song, no_song, long_song):
                self.assertEqual(ways(k, s, long_instrument), [-2])
            for i in (lute, no_instrument):
                self.assertEqual(ways(k, no_song, i), [-6])
            self.assertEqual(ways(k, song, no_instrument), [-8])
        self.assertEqual(ways(1, song, lute), [-4])

    def test_what_is_handed_in_stays_and_nothing_is_kept(self):
        songs = ("song\nq 1, 2^2\n|\n .\n", "song\nq 2, 1\n", "", of_bytes(65537))
        instruments = (LUTE, ALIKE, "", " " * 4097)
        first = []
        for song, instrument, k in itertools.product(songs, instruments, (0, 1, 2)):
            s, i = as_bytes(song), as_bytes(instrument)
            answer = ways(k, s, i)
            self.assertEqual((s, i), (as_bytes(song), as_bytes(instrument)))
            self.assertIs(type(answer), list)
            self.assertEqual([type(number) for number in answer], [int])
            first.append(list(answer))
            answer.append(7)
        again = [ways(k, as_bytes(song), as_bytes(instrument))
                 for song, instrument, k in itertools.product(songs, instruments, (0, 1, 2))]
        self.assertEqual(again, first)


if __name__ == "__main__":
    unittest.main()
