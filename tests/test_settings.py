"""best and many: the cheapest settings of a song, the first of them, and how many there are."""

import itertools
import math
import random
import unittest

from lutesettings.hands import grips_at
from lutesettings.songs import best, many, of, ways
from reference import (as_bytes, best_answers, chance_instrument, chance_piece, grips_of, holds_of, instrument_text,
                       of_bytes, piece_text, places_of, settings_by_pairs, settings_found, song_lines, song_of,
                       song_of_steps, strings)

NOTHING = [0] * 9


def weighed(**weights):
    """Nine weights, those not told 0: w0=3, w5=1."""
    return [weights.get(f"w{number}", 0) for number in range(9)]


# Instruments, and moments that have just so many holds on them.
JUST_1000 = (strings(1, 3, 4, 4, 2, 3, basses=(3, 6)), (3, 5, 6))
JUST_1001 = (strings(1, 6, 0, 1, 1, 3, basses=(1, 5, 4)), (4, 6, 7))
LUTE = strings(24, 19, 14, 10, 5, 0, basses=(-2, -3, -5, -7), frets=8)


class Settings(unittest.TestCase):
    def check(self, text, instrument, weights, cost, count, french=None):
        """The least cost, how many settings have it, and the first one's stops in a French text."""
        s, i = as_bytes(text), as_bytes(instrument)
        self.assertEqual(many(s, i, weights), [cost, count], (text, weights))
        answer = best(0, s, i, weights)
        self.assertEqual(answer[:2], [cost, len(answer) - 2])
        self.assertEqual(of(i, answer[2:]), [len(s)] + s)
        if french is not None:
            self.assertEqual(bytes(answer[2:]).decode(), "french\nq " + "\n ".join(french) + "\n")


class Costs(Settings):
    """Each part of the costs by itself, by hand."""

    # At fret 5: finger f at one of three positions.
    ONE = song_of_steps((5,))

    def test_each_finger(self):
        for finger in (1, 2, 3, 4):
            weights = weighed(w1=200, w2=200, w3=200, w4=200)
            weights[finger] = 7
            self.check(self.ONE, strings(0), weights, 7, 3, ["f....."])
            weights = weighed(**{f"w{finger}": 9})
            self.check(self.ONE, strings(0), weights, 0, 9)

    def test_no_weights(self):
        self.check(self.ONE, strings(0), NOTHING, 0, 12)
        self.check(song_of_steps((1,)), strings(0), NOTHING, 0, 2 + 1)
        self.check(song_of_steps((2,)), strings(0), NOTHING, 0, 3 + 2 + 1)
        self.check(song_of_steps((15,)), strings(0), NOTHING, 0, 2 + 3 + 3 + 3)

    def test_a_finger_off_its_fret(self):
        self.check(self.ONE, strings(0), weighed(w5=1), 0, 4)
        # Each finger at its own fret once; at fret 1 only finger 1 can be.
        self.check(song_of_steps((1,)), strings(0), weighed(w1=200, w5=3), 3, 1)
        self.check(song_of_steps((1,)), strings(0), weighed(w2=200, w5=3), 0, 1)
        self.check(song_of_steps((1,)), strings(0), weighed(w1=2, w5=3), 2, 1)
        # Frets 3 and 6 with fingers 1 and 3: one of both is off by one.
        only = weighed(w2=255, w4=255, w5=10)
        self.check(song_of_steps((3, 6)), strings(0, 0), only, 10, 4)
        # Frets 3 and 7: both are off by one.
        self.check(song_of_steps((3, 7)), strings(0, 0), only, 20, 2)

    def test_a_barre(self):
        alone = weighed(w1=7, w2=255, w3=255, w4=255, w5=100, w6=9)
        self.check(song_of_steps((5, 5)), strings(0, 0), alone, 16, 1, ["ff...."])
        self.check(song_of_steps((5, 5, 5)), strings(0, 0, 0), alone, 16, 1, ["fff..."])
        self.check(song_of_steps((5, 5)), strings(0, 0), NOTHING, 0, 11)
        # Off its fret it counts once.
        self.check(song_of_steps((5, 5)), strings(0, 0), weighed(w2=255, w3=255, w4=255, w5=2, w8=3), 11, 1)
        # Without a barre: one finger each, the lower one on the greater course.
        self.check(song_of_steps((5, 5)), strings(0, 0), weighed(w6=1), 0, 8)
        self.check(song_of_steps((5, 5)), strings(0, 0), weighed(w5=1, w6=1), 1, 7)
        # Finger 1 alone at a stop is none.
        self.check(song_of_steps((5,)), strings(0), weighed(w2=255, w3=255, w4=255, w6=50), 0, 3)

    def test_going_between_positions(self):
        # From fret 1 at position 2 to fret 12 at position 8.
        self.check(song_of_steps((1,), (12,)), strings(0), weighed(w0=5), 30, 1)
        self.check(song_of_steps((12,), (1,)), strings(0), weighed(w0=5), 30, 1)
        self.check(song_of_steps((1,), (12,), (1,)), strings(0), weighed(w0=1), 12, 1)
        self.check(song_of_steps((5,), (6,)), strings(0), weighed(w0=1), 0, 2 * 1 + 3 * 2 + 3 * 3 + 2 * 3 + 1 * 2)

    def test_a_finger_that_moves(self):
        first = weighed(w2=255, w3=255, w4=255, w7=6)
        self.check(song_of_steps((5,), (6,)), strings(0), first, 6, 9)
        # The same place: it stays.
        self.check(song_of_steps((5,), (5,)), strings(0), first, 0, 9)
        # The same fret on another course is another place.
        self.check(song_of_steps((5,), (6,)), strings(0, 1), first, 6, 2 * 9 + 2 * 9)
        # Other fingers don't move.
        self.check(song_of_steps((5,), (6,)), strings(0), weighed(w7=1), 0, 144 - 36)
        # Something else between: what is stopped in neighbouring moments alone counts.
        self.check(song_of_steps((5,), (), (6,)), strings(0), first, 0, 9 * 15)
        self.check(song_of_steps((5,), (0,), (6,)), strings(0), first, 0, 9 * 15)

    def test_a_barre_that_moves(self):
        first = weighed(w2=255, w3=255, w4=255, w7=6)
        apart = strings(0, 24, 48)
        # A place that's in both is enough.
        self.check(song_of_steps((5, 29), (5,)), apart, first, 0, 9)
        self.check(song_of_steps((5, 29), (29,)), apart, first, 0, 9)
        self.check(song_of_steps((5, 29), (29, 53)), apart, first, 0, 9)
        self.check(song_of_steps((5, 29), (53,)), apart, first, 6, 9)
        self.check(song_of_steps((5, 29), (6, 30)), apart, first, 6, 9)

    def test_the_first_position(self):
        self.check(self.ONE, strings(0), weighed(w8=4), 0, 1)
        self.check(self.ONE, strings(0), weighed(w4=255, w8=4), 4, 1)
        self.check(self.ONE, strings(0), weighed(w3=255, w4=255, w8=4), 8, 1)
        self.check(song_of_steps((5,), (5,)), strings(0), weighed(w2=255, w3=255, w4=255, w8=4), 12, 3)
        self.check(song_of_steps((), (5,)), strings(0), weighed(w2=255, w3=255, w4=255, w8=4), 0, 3)

    def test_nothing_held(self):
        self.check(song_of_steps(()), strings(0), NOTHING, 0, 15, ["......"])
        self.check(song_of_steps((0,)), strings(0), [255] * 9, 0, 1, ["a....."])
        self.check(song_of_steps((0, 0)), strings(0, 0), NOTHING, 0, 15)
        self.check(song_of_steps((), ()), strings(0), NOTHING, 0, 225)
        self.check(song_of_steps((), ()), strings(0), weighed(w0=1), 0, 15)
        self.check(song_of_steps((), ()), strings(0), weighed(w8=1), 0, 15)
        self.check(song_of_steps((), ()), strings(0), weighed(w0=1, w8=1), 0, 1)
        # Through a moment without notes the hand goes on its way.
        self.check(song_of_steps((1,), (), (12,)), strings(0), weighed(w0=5), 30, 7)

    def test_open_strings_beside_held_stops(self):
        self.check(song_of_steps((0, 5)), strings(0, 0), weighed(w5=1), 0, 8, ["af...."])


class Order(Settings):
    def test_placings(self):
        # A stop before none, of two the lower fret, at the first course where they differ.
        self.check(song_of_steps((3,)), strings(0, 0, 0), NOTHING, 0, 27, ["d....."])
        self.check(song_of_steps((3, 4)), strings(0, 1, 0), NOTHING, 0, self.count((3, 4), (0, 1, 0)), ["dd...."])
        self.check(song_of_steps((3,)), strings(4, 3, 2), NOTHING, 0, 18, [".a...."])
        self.check(song_of_steps((3, 5)), strings(5, 4, 3, 2), NOTHING, 0, self.count((3, 5), (5, 4, 3, 2)), ["a.a..."])
        self.check(song_of_steps((3,)), strings(0, 0, basses=(3,)), NOTHING, 0, 33, ["d....."])
        self.check(song_of_steps((3,)), strings(0, 0, basses=(3,)), weighed(w1=1, w2=1, w3=1, w4=1), 0, 15, ["..a..."])

    def count(self, notes, courses):
        places = places_of(strings(*courses))
        return len(holds_of(places, song_lines(song_of_steps(notes))[0][1]))

    def test_the_first_moment_counts_most(self):
        # Either moment can be on the first course, but not both with finger 1 still.
        weights = weighed(w2=255, w3=255, w4=255, w7=6)
        self.check(song_of_steps((3,), (3,)), strings(0, 0), weights, 0, 18, ["d.....", "d....."])

    def test_grips_do_not_change_the_text(self):
        places = places_of(LUTE)
        text = song_of_steps((24,), (10, 26), (), (5, 12, 24))
        for weights in (NOTHING, [1] * 9, weighed(w0=1, w7=2)):
            holds = [holds_of(places, line[1]) for line in song_lines(text)]
            found = settings_by_pairs(holds, weights)
            told = piece_text(0, [(16, list(hold[0])) for hold in found[2]])
            answer = best(0, as_bytes(text), as_bytes(LUTE), weights)
            self.assertEqual(bytes(answer[2:]).decode(), told)

    def test_bars_and_lengths_are_the_songs(self):
        text = "song\n|\ne. 2^5/12\n|\n|\n .\nx 1\n .\n|\n"
        pieces = ("french\n|\ne. f.....\n|\n|\n ......\nx a.....\n ......\n|\n",
                  "italian\n|\ne. .....5\n|\n|\n ......\nx .....0\n ......\n|\n",
                  "german\n|\ne. 9\n|\n|\n .\nx 5\n .\n|\n")
        for kind, piece in enumerate(pieces):
            answer = best(kind, as_bytes(text), as_bytes(strings(0)), [1] * 9)
            self.assertEqual(bytes(answer[2:]).decode(), piece)

    def test_each_kind_of_text(self):
        # Courses far apart: each note is in one place alone.
        far = strings(60, 40, 20, 0, -20, -40, basses=(-60, -80, -96, 80, 84, 88, 92, 96))
        text = song_of_steps((-96, -80, -60, -40, -18, 1, 23, 61, 80, 84, 88, 92, 96))
        for kind, told in ((0, "french\nq b.dbca a /a //a ///a 4 5 6 7\n"),
                           (1, "italian\nq 0213.1 7 8 9 10 11 12 13 14\n"),
                           (2, "german\nq e n b f + -7 -8 -9 -10 -11 -12 -13 -14\n")):
            answer = best(kind, as_bytes(text), as_bytes(far), NOTHING)
            self.assertEqual(bytes(answer[2:]).decode(), told)
            self.assertEqual(of(as_bytes(far), answer[2:]), [len(text)] + as_bytes(text))


class Grips(unittest.TestCase):
    def test_grips_by_hand(self):
        self.assertEqual(grips_at((1,)), [(1, (1,)), (1, (2,)), (2, (1,))])
        self.assertEqual(grips_at((15,)), [(11, (4,)), (12, (3,)), (12, (4,)), (13, (2,)), (13, (3,)), (13, (4,)),
                                           (14, (1,)), (14, (2,)), (14, (3,)), (15, (1,)), (15, (2,))])
        # The lower finger is on the course with the greater number.
        self.assertEqual(grips_at((5, 5)), [
            (2, (4, 3)), (3, (3, 2)), (3, (4, 2)), (3, (4, 3)), (4, (1, 1)), (4, (2, 1)), (4, (3, 1)), (4, (3, 2)),
            (5, (1, 1)), (5, (2, 1)), (6, (1, 1))])
        self.assertEqual(grips_at((1, 7)), [])
        self.assertEqual(grips_at((1, 6)), [(2, (1, 4))])
        self.assertEqual(grips_at((1, 2, 3, 4, 5)), [])
        self.assertEqual(grips_at((2, 3, 4, 5))[0], (1, (1, 2, 3, 4)))
        self.assertEqual(len(grips_at(())), 15)

    def test_all_grips_of_few_stops(self):
        for count in range(4):
            for frets in itertools.product(range(1, 16), repeat=count):
                held = tuple(enumerate(frets, 1))
                self.assertEqual(grips_at(frets), grips_of(held), frets)

    def test_grips_of_many_stops(self):
        chance = random.Random(71)
        some = 0
        for _ in range(120):
            lowest = chance.randint(1, 12)
            frets = tuple(lowest + chance.choice((0, 0, 0, 0, 1, 2, 3)) for _ in range(chance.randint(4, 6)))
            grips = grips_at(frets)
            self.assertEqual(grips, grips_of(tuple(enumerate(frets, 1))), frets)
            some += grips != []
        self.assertGreater(some, 30)


class Beside(unittest.TestCase):
    """Small songs beside a plain search through all settings."""

    def check(self, text, instrument, weights, search=settings_found):
        pieces, counted = best_answers(text, instrument, weights, search)
        s, i = as_bytes(text), as_bytes(instrument)
        self.assertEqual(many(s, i, weights), counted, (text, instrument, weights))
        for kind in range(3):
            answer = best(kind, s, i, weights)
            self.assertEqual(answer, pieces[kind], (text, instrument, weights))
            if answer[0] >= 0:
                self.assertEqual(of(i, answer[2:]), [len(s)] + s)
        return counted

    def drawn(self, chance, most, moments):
        """A song that can be played, and its instrument, with at most so many settings."""
        while True:
            instrument = chance_instrument(chance, chance.choice((2, 5, 9)), chance.choice((1, 2, 3, 5)))
            places = places_of(instrument)
            text = song_of(places, chance_piece(chance, places, chance.randint(1, moments)))
            notes = [line[1] for line in song_lines(text) if line is not None]
            holds = [len(holds_of(places, told)) for told in notes]
            if math.prod(holds) <= most and max(holds) <= 1000:
                return text, instrument

    def test_weights_of_every_kind(self):
        chance = random.Random(72)
        single = [[weight * (k == number) for k in range(9)] for number in range(9) for weight in (1, 255)]
        for weights in [[0] * 9, [1] * 9, [255] * 9] + single:
            for _ in range(12):
                text, instrument = self.drawn(chance, 1500, 4)
                self.check(text, instrument, weights)

    def test_weights_by_chance(self):
        chance = random.Random(73)
        played = 0
        for _ in range(300):
            text, instrument = self.drawn(chance, 2000, 4)
            most = chance.choice((1, 2, 5, 255))
            weights = [chance.randint(0, most) * chance.randint(0, 1) for _ in range(9)]
            played += self.check(text, instrument, weights)[0] >= 0
        self.assertGreater(played, 200)

    def test_longer_songs(self):
        chance = random.Random(74)
        for _ in range(12):
            text, instrument = self.drawn(chance, 10 ** 9, 6)
            weights = [chance.randint(0, 4) for _ in range(9)]
            holds = [len(holds_of(places_of(instrument), line[1])) for line in song_lines(text) if line is not None]
            if max(holds) <= 250:
                self.check(text, instrument, weights, settings_by_pairs)

    def test_both_searches_agree(self):
        chance = random.Random(75)
        for _ in range(20):
            text, instrument = self.drawn(chance, 500, 4)
            holds = [holds_of(places_of(instrument), line[1]) for line in song_lines(text) if line is not None]
            if all(holds):
                weights = [chance.randint(0, 3) for _ in range(9)]
                self.assertEqual(settings_found(holds, weights), settings_by_pairs(holds, weights))

    def test_any_notes(self):
        # Songs that may not be playable at all.
        chance = random.Random(76)
        seen = set()
        for _ in range(200):
            courses = [chance.randint(0, 9) for _ in range(chance.randint(1, 4))]
            instrument = strings(*courses, frets=chance.randint(0, 9))
            moments = [sorted(chance.randint(0, 14) for _ in range(chance.randint(0, 4))) for _ in range(2)]
            holds = [len(holds_of(places_of(instrument), line[1])) for line in song_lines(song_of_steps(*moments))]
            if math.prod(holds) <= 1500:
                weights = [chance.randint(0, 3) for _ in range(9)]
                seen.add(self.check(song_of_steps(*moments), instrument, weights)[0] >= 0)
        self.assertEqual(seen, {True, False})


class Edges(unittest.TestCase):
    def answers(self, text, instrument, weights, kind=0):
        s, i = as_bytes(text), as_bytes(instrument)
        return best(kind, s, i, weights), many(s, i, weights)

    def test_a_thousand_holds_and_one_more(self):
        for (instrument, notes), count in ((JUST_1000, 1000), (JUST_1001, 1001)):
            text = song_of_steps(notes)
            self.assertEqual(len(holds_of(places_of(instrument), song_lines(text)[0][1])), count)
            answer, counted = self.answers(text, instrument, NOTHING)
            if count == 1000:
                self.assertEqual(counted, [0, 1000])
                self.assertEqual(answer[0], 0)
            else:
                self.assertEqual((answer, counted), ([-9], [-9]))

    def test_open_strings_alone_have_fifteen_holds_each(self):
        # 66 and 67 placings, all open: 990 and 1,005 holds.
        twelve = instrument_text((), ["1"] * 12, ())
        self.assertEqual(ways(0, as_bytes("song\nq 1, 1\n"), as_bytes(twelve)), [66])
        self.assertEqual(self.answers("song\nq 1, 1\n", twelve, NOTHING)[1], [0, 990])
        thirteen = instrument_text((), ["1"] * 13, ())
        self.assertEqual(ways(0, as_bytes("song\nq 1, 1\n"), as_bytes(thirteen)), [78])
        self.assertEqual(self.answers("song\nq 1, 1\n", thirteen, NOTHING), ([-9], [-9]))

    def test_too_many_holds_where_another_moment_has_none(self):
        instrument, notes = JUST_1001
        for moments in ((notes, (99,)), ((99,), notes), ((99,), (), notes, (98,)), ((1, 2, 3, 4, 5, 6, 7), notes)):
            self.assertEqual(self.answers(song_of_steps(*moments), instrument, NOTHING), ([-9], [-9]))
        instrument, notes = JUST_1000
        self.assertEqual(self.answers(song_of_steps(notes, (99,)), instrument, NOTHING), ([-3], [-3]))
        self.assertEqual(self.answers(song_of_steps((99,), notes), instrument, NOTHING), ([-3], [-3]))

    def test_very_many_placings(self):
        # Each note on each course and on a bass: many thousands of placings.
        wide = strings(0, 0, 0, 0, 0, 0, basses=range(1, 9))
        self.assertEqual(self.answers(song_of_steps(range(1, 9)), wide, NOTHING), ([-9], [-9]))
        # Most of them can't be gripped.
        self.assertEqual(self.answers(song_of_steps((1, 5, 9, 10, 11, 12, 13, 14, 15)), wide, NOTHING)[1][0], -3)

    def test_counts_at_their_bound(self):
        instrument, notes = JUST_1000
        for moments, count in ((1, 1000), (2, 1000000), (3, 1000000000), (4, 1000000000), (12, 1000000000)):
            text = song_of_steps(*[notes] * moments)
            self.assertEqual(self.answers(text, instrument, NOTHING)[1], [0, count])
        one = strings(0)
        for moments in range(1, 13):
            counted = min(15 ** moments, 10 ** 9)
            self.assertEqual(self.answers(song_of_steps(*[(0,)] * moments), one, NOTHING)[1], [0, counted])
        self.assertEqual(self.answers(song_of_steps(*[()] * 7 + [(5,)]), one, NOTHING)[1], [0, 10 ** 9])
        self.assertEqual(self.answers(song_of_steps(*[()] * 6 + [(5,)]), one, NOTHING)[1], [0, 12 * 15 ** 6])
        # Just below the bound nothing is cut.
        fewer = (3, 6)
        count = self.answers(song_of_steps(fewer), instrument, NOTHING)[1][1]
        self.assertTrue(100 < count < 1000)
        self.assertEqual(self.answers(song_of_steps(notes, notes, fewer), instrument, NOTHING)[1], [0, 10 ** 6 * count])

    def test_twelve_moments_with_many_holds(self):
        instrument = strings(3, 2, 2, 1, 1, 3)
        moments = [[number + by for number in (7, 8, 9, 11)] for by in (0, 1, 2, 3, 4, 5)] * 2
        for weights in (NOTHING, [3, 1, 2, 3, 4, 5, 6, 7, 8]):
            answer, counted = self.answers(song_of_steps(*moments), instrument, weights)
            self.assertEqual(answer[0], counted[0])
            text = song_of_steps(*moments)
            self.assertEqual(of(as_bytes(instrument), answer[2:]), [len(text)] + as_bytes(text))

    def test_the_greatest_costs(self):
        text = song_of_steps(*[(1,), (15,)] * 6)
        answer, counted = self.answers(text, strings(0), [255] * 9)
        holds = [holds_of(places_of(strings(0)), line[1]) for line in song_lines(text)]
        self.assertEqual(counted, list(settings_by_pairs(holds, [255] * 9)[:2]))
        self.assertEqual(answer[0], counted[0])

    def test_no_setting(self):
        lute = strings(0, 5, 10, frets=9)
        for moments in (((99,),), ((0,), (99,)), ((99,), (0,)), ((0, 1, 2, 3),), ((0, 0),), ((), (-1,), ())):
            self.assertEqual(self.answers(song_of_steps(*moments), lute, NOTHING), ([-3], [-3]))
        # Placed, but not gripped: frets too far apart; more fingers than there are.
        apart = strings(0, 24, frets=15)
        self.assertEqual(ways(0, as_bytes(song_of_steps((1, 31))), as_bytes(apart)), [1])
        self.assertEqual(self.answers(song_of_steps((1, 31)), apart, NOTHING), ([-3], [-3]))
        self.assertEqual(self.answers(song_of_steps((1, 30)), apart, NOTHING)[1], [0, 1])
        five = strings(0, 20, 40, 60, 80)
        for notes, playable in (((1, 22, 43, 64), True), ((1, 22, 43, 64, 85), False), ((1, 21, 42, 63, 84), True)):
            self.assertEqual(ways(0, as_bytes(song_of_steps(notes)), as_bytes(five)), [1])
            self.assertEqual(self.answers(song_of_steps(notes), five, NOTHING) != ([-3], [-3]), playable, notes)

    def test_weights_that_are_none(self):
        text = song_of_steps((5,))
        for weights in ([], [0] * 8, [0] * 10, [0] * 12, [0] * 8 + [256], [256] + [0] * 8, [2147483647] * 9,
                        [0, 0, 0, 0, 256, 0, 0, 0, 0], [0] * 9 + [256], [1], [255] * 8, [2147483647]):
            self.assertEqual(self.answers(text, strings(0), weights), ([-1], [-1]), weights)
        for weights in ([255] * 9, [0] * 9, [0] * 8 + [255], [255] + [0] * 8):
            answer, counted = self.answers(text, strings(0), weights)
            self.assertGreaterEqual(answer[0], 0)
            self.assertGreaterEqual(counted[0], 0)

    def test_kinds(self):
        s, i = as_bytes(song_of_steps((5,))), as_bytes(strings(0))
        for kind, text in enumerate(("french\nq f.....\n", "italian\nq .....5\n", "german\nq 9\n")):
            self.assertEqual(best(kind, s, i, NOTHING), [0, len(text)] + as_bytes(text))
        for kind in (3, 4, 255, 2147483647):
            self.assertEqual(best(kind, s, i, NOTHING), [-1])

    def test_the_order_of_refusals(self):
        long_song, long_instrument = as_bytes(of_bytes(65537)), [10] * 4097
        no_song, no_instrument = as_bytes("song\n"), as_bytes("length 60000\n")
        instrument, notes = JUST_1001
        crowded, unplayable = as_bytes(song_of_steps(notes, (99,))), as_bytes(song_of_steps((99,)))
        lute = as_bytes(instrument)
        bad, good = [256] * 9, [0] * 9
        for kind, w in itertools.product((0, 3), (bad, good)):
            for s, i, refusal in ((long_song, lute, -2), (long_song, no_instrument, -2), (no_song, long_instrument, -2),
                                  (crowded, long_instrument, -2), ([0] * 110000, [0] * 8192, -2), (no_song, lute, -6),
                                  (no_song, no_instrument, -6), (crowded, no_instrument, -8),
                                  (unplayable, no_instrument, -8)):
                self.assertEqual(best(kind, s, i, w), [refusal])
                self.assertEqual(many(s, i, w), [refusal])
        for s in (crowded, unplayable):
            self.assertEqual(best(0, s, lute, bad), [-1])
            self.assertEqual(best(3, s, lute, good), [-1])
            self.assertEqual(best(3, s, lute, bad), [-1])
            self.assertEqual(many(s, lute, bad), [-1])
        self.assertEqual((best(0, crowded, lute, good), many(crowded, lute, good)), ([-9], [-9]))
        self.assertEqual((best(0, unplayable, lute, good), many(unplayable, lute, good)), ([-3], [-3]))

    def test_a_long_song_at_fault(self):
        text = as_bytes("song\nq 1\n" + " 1\n" * 600)
        self.assertEqual(best(0, text, as_bytes(strings(0)), NOTHING), [-6])
        self.assertEqual(many(text, as_bytes(strings(0)), NOTHING), [-6])

    def test_bars_do_not_count_as_moments(self):
        text = "song\n" + "|\n" * 500 + "q 1\n" + " 1\n" * 11
        answer, counted = self.answers(text, strings(0), [1] * 9)
        self.assertEqual(counted, [0, 1])
        self.assertEqual(bytes(answer[2:]).decode(), "french\n" + "|\n" * 500 + "q a.....\n" + " a.....\n" * 11)


class EveryCall(unittest.TestCase):
    SONGS = (song_of_steps((5,), (), (3, 7)), song_of_steps((99,)), song_of_steps(JUST_1001[1]), "song\nq 2, 1\n", "",
             of_bytes(65537))
    INSTRUMENTS = (strings(0, 0), JUST_1001[0], "", " " * 4097)
    WEIGHTS = ([1] * 9, [0] * 9, [256] * 9, [])

    def every(self):
        return itertools.product(self.SONGS, self.INSTRUMENTS, self.WEIGHTS)

    def test_what_is_handed_in_stays(self):
        for text, instrument, weights in self.every():
            s, i, w = as_bytes(text), as_bytes(instrument), list(weights)
            best(2, s, i, w)
            many(s, i, w)
            self.assertEqual((s, i, w), (as_bytes(text), as_bytes(instrument), weights))

    def answers(self):
        return [(best(1, as_bytes(text), as_bytes(instrument), list(weights)),
                 many(as_bytes(text), as_bytes(instrument), list(weights)))
                for text, instrument, weights in self.every()]

    def test_nothing_is_kept(self):
        first = self.answers()
        copies = [(list(answer), list(counted)) for answer, counted in first]
        for answer, counted in first:
            answer.append(7)
            counted.append(7)
        self.assertEqual(self.answers(), copies)

    def test_answers_are_lists_of_whole_numbers(self):
        for answers in self.answers():
            for answer in answers:
                self.assertIs(type(answer), list)
                self.assertEqual({type(number) for number in answer}, {int})


if __name__ == "__main__":
    unittest.main()
