"""The promises F1 to F5 over the whole program, and every call at its greatest sizes."""

import itertools
import math
import random
import time
import unittest

from lutesettings.songs import best, judge, line, many, of, raised, sizes, stuck, ways
from reference import (LONGEST, as_bytes, best_answers, chance_instrument, chance_interval, chance_piece, chance_song,
                       changed, going_cost, grips_of, held_of, hold_cost, holds_of, instrument_text, interval_of,
                       interval_text, is_interval, of_bytes, opposite, piece_lines, piece_text, places_of,
                       settings_by_pairs, song_fault, song_lines, song_of, song_text, step, sum_of)

# In good time: far more than any call needs here, so that a slow machine passes too.
GOOD_TIME = 30

SIGNS = "0123456789^-/ ,.|\nxtseqhwZ"


def moments_of(song):
    return [line[1] for line in song_lines(song) if line is not None]


def drawn(chance, moments=4, most_holds=1000):
    """A song, its instrument, and the holds of its moments, few enough to be gone through."""
    while True:
        instrument = chance_instrument(chance, chance.choice((2, 5, 9)), chance.choice((1, 2, 3, 5)))
        places = places_of(instrument)
        song = song_of(places, chance_piece(chance, places, chance.randint(1, moments)))
        holds = [holds_of(places, notes) for notes in moments_of(song)]
        if max(map(len, holds)) <= most_holds:
            return song, instrument, holds


def drawn_weights(chance):
    most = chance.choice((1, 3, 255))
    return [chance.randint(0, most) * chance.randint(0, 1) for _ in range(9)]


def raised_instrument(instrument, x):
    """The text of the instrument with each course and bass raised by x, or None if that's no instrument."""
    rows = []
    for row in instrument.split("\n"):
        word, _, told = row.partition(" ")
        if word in ("course", "bass"):
            higher = sum_of(x, interval_of(told))
            if not is_interval(higher):
                return None
            row = f"{word} {interval_text(higher)}"
        rows.append(row)
    text = "\n".join(rows)
    return text if places_of(text) is not None else None


class OneToOne(unittest.TestCase):
    """F1: songs' texts and songs are one to one; a text that's none has one fault."""

    def test_a_song_is_told_by_its_lines(self):
        chance = random.Random(91)
        for _ in range(200):
            text = song_text(chance_song(chance))
            s = as_bytes(text)
            lines = []
            for k in range(judge(s)[0]):
                told = line(k, s)
                notes = [told[2 + 5 * n:7 + 5 * n] for n in range(len(told) // 5)]
                lines.append(None if told == [0] else (told[0], notes))
            self.assertEqual(song_text(lines), text)
            self.assertEqual(sizes(s)[2], sum(len(told[1]) for told in lines if told))
            self.assertEqual(line(len(lines), s), [-4])

    def test_a_text_that_is_none_has_one_fault(self):
        chance = random.Random(92)
        for _ in range(300):
            text = changed(song_text(chance_song(chance)), chance, SIGNS)
            fault = song_fault(text)
            s, lute = as_bytes(text), as_bytes("length 60000\ncourse 1\n")
            if fault is None:
                self.assertEqual(raised(s, [0, 0, 0, 0, 1]), [len(s)] + s)
                continue
            self.assertEqual(judge(s), [-6, fault])
            for answer in (sizes(s), line(0, s), raised(s, []), ways(0, s, lute), best(0, s, lute, []),
                           many(s, lute, []), stuck(s, lute)):
                self.assertEqual(answer, [-6])

    def test_different_songs_have_different_texts(self):
        chance = random.Random(93)
        songs = [chance_song(chance) for _ in range(300)]
        texts = [song_text(song) for song in songs]
        for (song, text), (other, told) in itertools.combinations(zip(songs, texts), 2):
            self.assertEqual(song == other, text == told)


class Cheapest(unittest.TestCase):
    """F2 and F3: the setting told is the first of the cheapest, and sounds the song."""

    def test_small_songs(self):
        chance = random.Random(94)
        for _ in range(150):
            song, instrument, holds = drawn(chance)
            if math.prod(map(len, holds)) > 2000:
                continue
            weights = drawn_weights(chance)
            pieces, counted = best_answers(song, instrument, weights)
            s, i = as_bytes(song), as_bytes(instrument)
            self.assertEqual([best(kind, s, i, weights) for kind in range(3)], pieces)
            self.assertEqual(many(s, i, weights), counted)

    def test_what_is_told_can_be_played_at_that_cost(self):
        chance = random.Random(95)
        for _ in range(60):
            song, instrument, holds = drawn(chance, 8, 300)
            if not all(holds):
                continue
            weights = drawn_weights(chance)
            s, i = as_bytes(song), as_bytes(instrument)
            kind = chance.randrange(3)
            answer = best(kind, s, i, weights)
            piece = bytes(answer[2:]).decode()
            self.assertEqual(of(i, as_bytes(piece)), [len(s)] + s)
            # The told placings, with any grips: none is cheaper than told, and one costs just that.
            placings = [tuple(told[1]) for told in piece_lines(piece) if told is not None]
            grips = [[(placing,) + grip for grip in grips_of(held_of(placing))] for placing in placings]
            self.assertEqual(settings_by_pairs(grips, weights)[0], answer[0])
            self.assertEqual(many(s, i, weights)[0], answer[0])

    def test_no_setting_by_chance_is_cheaper(self):
        chance = random.Random(96)
        for _ in range(80):
            song, instrument, holds = drawn(chance, 8)
            if not all(holds):
                continue
            weights = drawn_weights(chance)
            least = many(as_bytes(song), as_bytes(instrument), weights)[0]
            for _ in range(50):
                setting = [chance.choice(held) for held in holds]
                cost = sum(hold_cost(hold, weights) for hold in setting) + weights[8] * (setting[0][1] - 1)
                cost += sum(going_cost(hold, after, weights) for hold, after in zip(setting, setting[1:]))
                self.assertGreaterEqual(cost, least)

    def test_longer_songs(self):
        chance = random.Random(97)
        for _ in range(15):
            song, instrument, holds = drawn(chance, 8, 120)
            if all(holds):
                weights = drawn_weights(chance)
                pieces, counted = best_answers(song, instrument, weights, settings_by_pairs)
                s, i = as_bytes(song), as_bytes(instrument)
                self.assertEqual(best(0, s, i, weights), pieces[0])
                self.assertEqual(many(s, i, weights), counted)


class Raised(unittest.TestCase):
    """F4: raised and down again it's the song; raised together song and instrument have the same settings."""

    def test_raised_and_down_again(self):
        chance = random.Random(98)
        both = 0
        for _ in range(300):
            s = as_bytes(song_text(chance_song(chance)))
            x = chance_interval(chance)
            higher = raised(s, x)
            if higher != [-3]:
                both += 1
                self.assertEqual(raised(higher[1:], opposite(x)), [len(s)] + s)
        self.assertGreater(both, 50)

    def test_a_song_raised_on_an_instrument_raised(self):
        chance = random.Random(99)
        both = 0
        for _ in range(150):
            song, instrument, holds = drawn(chance, 5)
            x = chance.choice((chance_interval(chance), [chance.randint(-5, 5), 0, 0, 0, 1], [-1, 1, 0, 0, 1]))
            answer, higher = raised(as_bytes(song), x), raised_instrument(instrument, x)
            if answer == [-3] or higher is None:
                continue
            both += 1
            weights = drawn_weights(chance)
            s, i, r, j = as_bytes(song), as_bytes(instrument), answer[1:], as_bytes(higher)
            for k in range(len(holds) + 1):
                self.assertEqual(ways(k, r, j), ways(k, s, i))
            self.assertEqual(many(r, j, weights), many(s, i, weights))
            self.assertEqual(best(1, r, j, weights), best(1, s, i, weights))
            self.assertEqual(stuck(r, j), stuck(s, i))
        self.assertGreater(both, 60)


class NoFurther(unittest.TestCase):
    """F5: where stuck tells fewer than all, no setting goes further."""

    def test_songs_that_cannot_be_set(self):
        chance = random.Random(100)
        seen = set()
        for _ in range(300):
            instrument = chance_instrument(chance, 15, 6)
            places = places_of(instrument)
            song = song_of(places, chance_piece(chance, places, 5))
            moments = moments_of(song)
            s, i = as_bytes(song), as_bytes(instrument)
            (count,) = stuck(s, i)
            answer, counted = best(0, s, i, [1] * 9), many(s, i, [1] * 9)
            if count < len(moments):
                self.assertIn(answer, ([-3], [-9]))
                self.assertIn(counted, ([-3], [-9]))
                # The moments before it alone can be set, with it they can't.
                self.assertNotEqual(many(as_bytes(self.beginning(song, count)), i, [1] * 9), [-3])
                self.assertIn(many(as_bytes(self.beginning(song, count + 1)), i, [1] * 9), ([-3], [-9]))
            else:
                self.assertNotEqual(answer, [-3])
                self.assertNotEqual(counted, [-3])
            seen.add(count < len(moments))
        self.assertEqual(seen, {True, False})

    def beginning(self, song, count):
        """The song's first moments; a moment without notes if that's none."""
        moments = [told for told in song_lines(song) if told is not None]
        return song_text(moments[:count] or [(16, [])])


class GreatestSizes(unittest.TestCase):
    def setUp(self):
        self.start = time.perf_counter()

    def tearDown(self):
        self.assertLess(time.perf_counter() - self.start, GOOD_TIME)

    # Each note on each of six courses, and most of them on a bass.
    WIDE = instrument_text([step(n, 24) for n in range(1, 16)], [step(n, 24) for n in (0, 1, 1, 0, 1, 1)],
                           [step(n, 24) for n in (14, 1, 0, 6, 4, 7, 8, 13)])

    def test_lists_as_long_as_may_be(self):
        for s in ([0] * 110000, [255] * 110000, as_bytes("song\nq 2") + [32] * 109992):
            for i in ([0] * 8192, as_bytes(self.WIDE)):
                for answer in (judge(s), sizes(s), line(0, s), raised(s, [0] * 8), of(i, s), ways(0, s, i),
                               best(0, s, i, [0] * 12), many(s, i, [0] * 12), stuck(s, i)):
                    self.assertEqual(answer, [-2])

    def test_as_many_bytes_as_may_be_at_fault_in_the_end(self):
        s = as_bytes(of_bytes(65535)) + [0]
        i = as_bytes(self.WIDE)
        self.assertEqual(judge(s), [-6, 65535])
        for answer in (sizes(s), line(0, s), raised(s, []), ways(0, s, i), best(0, s, i, []), many(s, i, []),
                       stuck(s, i)):
            self.assertEqual(answer, [-6])

    def test_the_greatest_song(self):
        text = of_bytes(65536)
        s, i = as_bytes(text), as_bytes(instrument_text((), [LONGEST] * 14, ()))
        moments = len(moments_of(text))
        self.assertEqual(sizes(s)[0], moments)
        self.assertEqual(raised(s, [0, 0, 0, 0, 1]), [len(s)] + s)
        self.assertEqual(line(511, s), [-4])
        self.assertEqual(ways(1, s, i), [1])
        self.assertEqual(stuck(s, i), [moments])

    def test_a_song_of_512_moments(self):
        # A barre on some courses, a finger on two more, and the basses: a hand can hold each.
        chance = random.Random(101)
        places = places_of(self.WIDE)
        stops = []
        for _ in range(512):
            frets = [4, 6] + [chance.choice((0, 3)) for _ in range(4)]
            chance.shuffle(frets)
            stops.append((16, list(enumerate(frets, 1)) + [(course, 0) for course in range(7, 15)]))
        piece = as_bytes(piece_text(2, stops))
        i = as_bytes(self.WIDE)
        song = of(i, piece)[1:]
        self.assertEqual(song, as_bytes(song_of(places, stops)))
        self.assertLess(len(song), 65536)
        self.assertEqual(stuck(song, i), [512])
        self.assertGreater(ways(511, song, i)[0], 0)
        self.assertEqual(ways(512, song, i), [-4])

    def test_many_placings_of_twelve_moments(self):
        # Each has tens of thousands of placings, and no hold or only some.
        notes = (0, 1, 4, 5, 6, 7, 8, 12, 13, 14)
        rows = [", ".join(step(n, 24) for n in notes[:10 - by] + tuple(range(15, 15 + by))) for by in range(4)]
        song = as_bytes("song\nq " + "\n ".join(rows * 3) + "\n")
        i = as_bytes(self.WIDE)
        self.assertGreater(ways(0, song, i)[0], 50000)
        self.assertIn(best(0, song, i, [1] * 9), ([-3], [-9]))
        self.assertIn(many(song, i, [1] * 9), ([-3], [-9]))
        self.assertEqual(stuck(song, i), [0])

    def test_twelve_moments_of_nearly_a_thousand_holds(self):
        lute = instrument_text([step(n, 24) for n in range(1, 16)], [step(n, 24) for n in (3, 2, 2, 1, 1, 3)], ())
        rows = [", ".join(step(n + by, 24) for n in (7, 8, 9, 11)) for by in range(6)]
        song = as_bytes("song\nq " + "\n ".join(rows * 2) + "\n")
        i = as_bytes(lute)
        answer = best(0, song, i, [255] * 9)
        self.assertEqual(many(song, i, [255] * 9)[0], answer[0])
        self.assertEqual(of(i, answer[2:])[1:], song)


class AnyOrder(unittest.TestCase):
    def test_calls_in_any_order(self):
        chance = random.Random(102)
        song, instrument, _ = drawn(chance, 6, 200)
        places = places_of(instrument)
        piece = piece_text(1, chance_piece(chance, places))
        handed = {"s": as_bytes(song), "i": as_bytes(instrument), "t": as_bytes(piece), "x": [-1, 1, 0, 0, 1],
                  "w": [1, 2, 3, 4, 5, 6, 7, 8, 9], "n": as_bytes("song\n")}
        copies = {name: list(value) for name, value in handed.items()}
        calls = [lambda: judge(handed["s"]), lambda: sizes(handed["s"]), lambda: line(0, handed["s"]),
                 lambda: raised(handed["s"], handed["x"]), lambda: of(handed["i"], handed["t"]),
                 lambda: ways(0, handed["s"], handed["i"]),
                 lambda: best(2, handed["s"], handed["i"], handed["w"]),
                 lambda: many(handed["s"], handed["i"], handed["w"]), lambda: stuck(handed["s"], handed["i"]),
                 lambda: judge(handed["n"]), lambda: stuck(handed["n"], handed["i"]),
                 lambda: of(handed["n"], handed["t"]), lambda: best(3, handed["s"], handed["i"], handed["w"])]
        first = [call() for call in calls]
        for _ in range(60):
            number = chance.randrange(len(calls))
            answer = calls[number]()
            self.assertEqual(answer, first[number])
            self.assertIsNot(answer, first[number])
            answer.append(7)
        self.assertEqual(handed, copies)


if __name__ == "__main__":
    unittest.main()
