"""stuck: how many moments, from the first on, can be set."""

import itertools
import random
import unittest

from lutesettings.songs import best, many, stuck, ways
from reference import (as_bytes, chance_instrument, chance_piece, holds_of, instrument_text, of_bytes, places_of,
                       song_lines, song_of, song_of_steps, strings, stuck_at)

# Each note is in one place alone.
FAR = strings(0, 20, 40, 60, 80)
UNPLACED = (99,)
UNGRIPPED = (1, 22, 43, 64, 85)
PLAYABLE = (1, 22, 43, 64)


class Stuck(unittest.TestCase):
    def check(self, moments, count, instrument=FAR):
        self.assertEqual(stuck(as_bytes(song_of_steps(*moments)), as_bytes(instrument)), [count], moments)

    def test_all_moments_can_be_set(self):
        self.check([PLAYABLE], 1)
        self.check([()], 1)
        self.check([(0,), PLAYABLE, (), (15,), (0, 20, 40, 60, 80)], 5)

    def test_the_first_cannot(self):
        for first in (UNPLACED, UNGRIPPED, (1, 2), (-1,), (1, 27)):
            self.check([first], 0)
            self.check([first, (), PLAYABLE], 0)
            self.check([first, first], 0)

    def test_one_in_the_middle_has_no_placing(self):
        self.check([PLAYABLE, (), UNPLACED, PLAYABLE], 2)
        self.check([PLAYABLE, (), (0, 1), PLAYABLE], 2)
        self.check([PLAYABLE, (), (0, 20, 40, 60, 80, 80), PLAYABLE], 2)
        for notes in (UNPLACED, (0, 1), (0, 20, 40, 60, 80, 80)):
            self.assertEqual(ways(0, as_bytes(song_of_steps(notes)), as_bytes(FAR)), [0])

    def test_one_has_no_grip_for_its_placing(self):
        self.check([PLAYABLE, UNGRIPPED, PLAYABLE], 1)
        self.check([PLAYABLE, (1, 26), (1, 27), PLAYABLE], 2)
        for notes in (UNGRIPPED, (1, 27)):
            self.assertEqual(ways(0, as_bytes(song_of_steps(notes)), as_bytes(FAR)), [1])

    def test_one_has_no_grip_for_any_of_many_placings(self):
        alike = strings(0, 0, 0, 0, 0, 0)
        for notes in ((1, 2, 3, 4, 5), (1, 7), (1, 2, 3, 4, 5, 6), (1, 1, 2, 2, 3, 3)):
            self.assertGreater(ways(0, as_bytes(song_of_steps(notes)), as_bytes(alike))[0], 1)
            self.check([(1, 2), notes, (1,)], 1, alike)
        for notes in ((1, 2, 3, 4), (1, 6), (1, 1, 1, 2, 3, 4), (0, 0, 3, 4, 5, 6)):
            self.check([(1, 2), notes, (1,)], 3, alike)

    def test_the_last_cannot(self):
        self.check([PLAYABLE, (), (0,), UNGRIPPED], 3)

    def test_only_the_first_stuck_moment_counts(self):
        self.check([PLAYABLE, UNPLACED, PLAYABLE, UNGRIPPED, ()], 1)

    def test_moments_without_notes(self):
        self.check([()] * 12, 12)
        self.check([(), (), UNPLACED, ()], 2)
        self.check([()], 1, instrument_text((), ("1",), ()))

    def test_bars_are_not_counted(self):
        lute = as_bytes(FAR)
        self.assertEqual(stuck(as_bytes("song\n|\n|\nq 1\n|\n|\n|\n .\n|\n"), lute), [2])
        self.assertEqual(stuck(as_bytes("song\n|\n|\nq 1\n|\n|\n|\n 7\n|\n 1\n"), lute), [1])
        self.assertEqual(stuck(as_bytes("song\n" + "|\n" * 511 + "q 1\n"), lute), [1])
        self.assertEqual(stuck(as_bytes("song\n" + "|\n" * 511 + "q 7\n"), lute), [0])

    def test_going_is_always_possible(self):
        # From the first fret to the fifteenth and back, with a hand full of stops each time.
        low, high = (1, 21, 42, 63, 84), (12, 32, 53, 74, 95)
        self.check([low, high] * 6, 12)

    def test_notes_that_an_open_course_can_take(self):
        # Held they'd be too far apart, or too many; a bass takes them.
        self.check([(1, 8)], 0, strings(0, 0))
        self.check([(1, 8)], 1, strings(0, 0, basses=(8,)))
        self.check([(1, 2, 3, 4, 5)], 0, strings(0, 0, 0, 0, 0))
        self.check([(1, 2, 3, 4, 5)], 1, strings(0, 0, 0, 0, 0, basses=(3,)))
        self.check([(1, 3, 3, 3, 8)], 1, strings(0, 0, 0, 0, 0, 0, basses=(3, 3, 8)))
        self.check([(1, 1, 8, 8)], 0, strings(0, 0, 0, 0, 0, 0, basses=(2,)))
        self.check([(1, 1, 8, 8)], 1, strings(0, 0, 0, 0, 0, 0, basses=(1, 1)))
        # The same course can't be held and open.
        self.check([(0, 1)], 0, strings(0))
        self.check([(0, 1)], 1, strings(0, basses=(0,)))

    def test_fretted_courses_beyond_the_sixth_are_open_alone(self):
        deep = strings(*[0] * 6 + [5] * 8)
        self.check([(5,) * 8 + (1, 1, 1, 1, 1, 1)], 1, deep)
        self.check([(5,) * 8 + (1, 2, 3, 4, 6, 7)], 0, deep)
        self.check([(6,) * 7], 0, deep)
        self.check([(5,) * 8 + (6,) * 6], 1, deep)
        # Here finger 1 stops the fifth fret, so that the sixth can't be a barre.
        self.check([(5,) * 9 + (6,) * 5], 0, deep)
        self.check([(5,) * 9 + (6,) * 3], 1, deep)

    def test_more_holds_than_may_be_counted(self):
        wide = strings(0, 0, 0, 0, 0, 0, basses=range(1, 9))
        moments = [tuple(range(1, 9)), tuple(range(1, 8)), (1, 2, 3)]
        self.assertEqual(many(as_bytes(song_of_steps(*moments)), as_bytes(wide), [0] * 9), [-9])
        self.check(moments, 3, wide)
        self.check(moments + [UNPLACED], 3, wide)
        self.check([(0,) * 6] * 3, 3, strings(*[0] * 14))


class Beside(unittest.TestCase):
    def test_songs_that_can_be_played_or_not(self):
        chance = random.Random(81)
        seen = {}
        for _ in range(900):
            instrument = chance_instrument(chance, chance.choice((9, 15)), chance.choice((4, 6, 8)))
            places = places_of(instrument)
            text = song_of(places, chance_piece(chance, places, 6))
            if max(len(line[1]) for line in song_lines(text) if line is not None) > 4:
                continue
            count = stuck_at(places, text)
            self.assertEqual(stuck(as_bytes(text), as_bytes(instrument)), [count], (text, instrument))
            moments = len([line for line in song_lines(text) if line is not None])
            seen[count < moments] = seen.get(count < moments, 0) + 1
            if count < moments:
                refusals = ([-3], [-9])
                self.assertIn(best(0, as_bytes(text), as_bytes(instrument), [0] * 9), refusals)
                self.assertIn(many(as_bytes(text), as_bytes(instrument), [0] * 9), refusals)
        self.assertGreater(min(seen.values()), 20)

    def test_any_notes(self):
        chance = random.Random(82)
        seen = set()
        for _ in range(400):
            courses = [chance.randint(0, 7) for _ in range(chance.randint(1, 5))]
            basses = [chance.randint(0, 14) for _ in range(chance.randint(0, 3))]
            instrument = strings(*courses, basses=basses, frets=chance.randint(1, 12))
            text = song_of_steps(*[[chance.randint(0, 14) for _ in range(chance.randint(0, 5))] for _ in range(4)])
            count = stuck_at(places_of(instrument), text)
            seen.add(count)
            self.assertEqual(stuck(as_bytes(text), as_bytes(instrument)), [count], (text, instrument))
        self.assertEqual(seen, {0, 1, 2, 3, 4})

    def test_every_moment_of_a_few_notes(self):
        instrument = strings(4, 2, 0, basses=(3,), frets=9)
        places = places_of(instrument)
        for count in range(5):
            for notes in itertools.combinations_with_replacement(range(0, 14, 1 + (count > 3)), count):
                text = song_of_steps(notes)
                held = holds_of(places, song_lines(text)[0][1]) != []
                self.assertEqual(stuck(as_bytes(text), as_bytes(instrument)), [int(held)], notes)


class Edges(unittest.TestCase):
    def test_as_many_moments_as_may_be(self):
        for number in (0, 1, 255, 510, 511):
            moments = [(number % 16,) for number in range(512)]
            self.assertEqual(stuck(as_bytes(song_of_steps(*moments)), as_bytes(FAR)), [512])
            moments[number] = UNGRIPPED
            self.assertEqual(stuck(as_bytes(song_of_steps(*moments)), as_bytes(FAR)), [number])

    def test_many_different_moments_with_many_placings(self):
        # Each note on each course, some on basses too: in good time, for 512 different moments.
        wide = strings(0, 0, 0, 0, 0, 0, basses=range(1, 9))
        lines = itertools.chain(itertools.combinations(range(1, 13), 4), itertools.combinations(range(1, 11), 9),
                                itertools.combinations(range(1, 14), 3))
        moments = [notes for notes in lines if stuck(as_bytes(song_of_steps(notes)), as_bytes(wide)) == [1]][:511]
        self.assertEqual(len(set(moments)), 511)
        text = as_bytes(song_of_steps(*moments, (1, 2)))
        self.assertEqual(stuck(text, as_bytes(wide)), [512])
        self.assertEqual(stuck(as_bytes(song_of_steps(*moments, (9, 10, 11, 12, 13))), as_bytes(wide)), [511])

    def test_the_order_of_refusals(self):
        long_song, long_instrument = as_bytes(of_bytes(65537)), [10] * 4097
        no_song, no_instrument = as_bytes("song\n"), as_bytes("length 60000\n")
        text, lute = as_bytes(song_of_steps(UNPLACED)), as_bytes(FAR)
        for s, i, refusal in ((long_song, lute, -2), (long_song, no_instrument, -2), (no_song, long_instrument, -2),
                              (text, long_instrument, -2), ([0] * 110000, [0] * 8192, -2), (no_song, lute, -6),
                              (no_song, no_instrument, -6), ([], [], -6), (text, no_instrument, -8), (text, [], -8),
                              (text, lute, 0)):
            self.assertEqual(stuck(s, i), [refusal])

    def test_what_is_handed_in_stays_and_nothing_is_kept(self):
        songs = (song_of_steps(PLAYABLE, UNPLACED), song_of_steps(()), "song\nq 2, 1\n", "", of_bytes(65537))
        instruments = (FAR, strings(0), "", " " * 4097)
        first = []
        for text, instrument in itertools.product(songs, instruments):
            s, i = as_bytes(text), as_bytes(instrument)
            answer = stuck(s, i)
            self.assertEqual((s, i), (as_bytes(text), as_bytes(instrument)))
            self.assertIs(type(answer), list)
            self.assertEqual([type(number) for number in answer], [int])
            first.append(list(answer))
            answer.append(7)
        again = [stuck(as_bytes(text), as_bytes(i)) for text, i in itertools.product(songs, instruments)]
        self.assertEqual(again, first)


if __name__ == "__main__":
    unittest.main()
