"""Pieces' texts in their three kinds, and of: what they sound on an instrument."""

import itertools
import random
import unittest

from lutesettings.cursors import Fault
from lutesettings.piecetexts import read_piece, write_piece
from lutesettings.songs import judge, of
from reference import (CROSSINGS, GERMAN, KINDS, LENGTHS, LONGEST, SIGNS, as_bytes, chance_instrument, chance_piece,
                       changed, in_order, instrument_text, interval_of, interval_text, of_answer, piece_lines,
                       piece_text, places_of, song_lines, stops_text, strings)

LUTE = strings(24, 19, 14, 10, 5, 0, basses=(-2, -3, -5, -7, -8, -10, -12, -14))
STRING = instrument_text((), ("1",), ())
EMPTY = ("......", "......", ".")


def played(piece, instrument=LUTE):
    """The song's text that a piece sounds, or the refusal."""
    answer = of(as_bytes(instrument), as_bytes(piece))
    if answer[0] < 0:
        return answer
    assert answer[0] == len(answer) - 1
    return bytes(answer[1:]).decode()


class Sounds(unittest.TestCase):
    def check(self, stops, notes, instrument=LUTE):
        """These stops, in each kind of text, sound these notes."""
        for kind in range(3):
            piece = f"{KINDS[kind]}\nq {stops_text(kind, stops)}\n"
            self.assertEqual(played(piece, instrument), f"song\nq {notes}\n", piece)

    def test_texts_by_hand(self):
        song = "song\nq 2^5/6, 2^7/4, 2^2\n|\n 2^-1/6, 2^13/6\ne. .\n|\nh 2^-1, 1\n"
        self.assertEqual(played("french\nq ac.a..\n|\n c..... a\ne. ......\n|\nh .....a 6\n"), song)
        self.assertEqual(played("italian\nq ..0.20\n|\n .....2 7\ne. ......\n|\nh 0..... 13\n"), song)
        self.assertEqual(played("german\nq 5 i 2\n|\n k -7\ne. .\n|\nh + -13\n"), song)

    def test_open_strings(self):
        for course, note in enumerate(("2^2", "2^19/12", "2^7/6", "2^5/6", "2^5/12", "1"), 1):
            self.check([(course, 0)], note)

    def test_every_fret_of_every_course(self):
        places = places_of(LUTE)
        for course in range(1, 7):
            for fret in range(16):
                self.check([(course, fret)], interval_text(places[course, fret]))

    def test_basses(self):
        strings = [row.partition(" ")[2] for row in LUTE.split("\n") if row.startswith("bass")]
        for course, note in enumerate(strings, 7):
            self.check([(course, 0)], note)
        self.check([(course, 0) for course in range(7, 15)], ", ".join(reversed(strings)))

    def test_signs_by_hand(self):
        for told in (("b.....", ".....1", "e"), ("....b.", ".1....", "a"), ("q.....", ".....w", "999"),
                     ("....q.", ".w....", "xxx"), ("....g.", ".6....", "aa"), (".k....", "....9.", "tt"),
                     (".....k", "9.....", "I"), (".....q", "w.....", "P"), ("...l..", "..x...", "yy"),
                     ("..m...", "...y..", "ccc"), (".n....", "....z.", "iii"), ("o.....", ".....v", "ppp"),
                     ("p.....", ".....u", "vvv"), ("...... /a", "...... 8", "-8"), ("...... //a", "...... 9", "-9"),
                     ("...... ///a", "...... 10", "-10"), ("...... 4", "...... 11", "-11"),
                     ("...... 5", "...... 12", "-12"), ("...... 7", "...... 14", "-14"), (".f....", "....5.", "&")):
            songs = [played(f"{KINDS[kind]}\nq {told[kind]}\n") for kind in range(3)]
            self.assertEqual(songs, [songs[0]] * 3, told)
            self.assertIsInstance(songs[0], str)

    def test_the_same_note_from_several_stops(self):
        self.check([(1, 0), (2, 5), (3, 10), (4, 14)], "2^2, 2^2, 2^2, 2^2")
        unisons = instrument_text(("2",), ["1"] * 6, ["1"] * 8)
        self.check([(course, 0) for course in range(1, 15)], ", ".join(["1"] * 14), unisons)
        self.check([(1, 1), (2, 0), (3, 1), (14, 0)], "1, 1, 2, 2", unisons)

    def test_a_higher_course_sounds_the_narrower_note(self):
        self.check([(1, 0), (2, 7)], "2^2, 2^13/6")
        upside = instrument_text(("2^-1 3",), ("1", "2", "2^2"), ("2^3", "2^-1"))
        self.check([(1, 0), (2, 0), (3, 0), (4, 0), (5, 0)], "2^-1, 1, 2, 2^2, 2^3", upside)
        self.check([(1, 1), (2, 0), (3, 1)], "2^-1 3, 2, 2 3", upside)

    def test_very_near_notes(self):
        near = instrument_text((), ("2^7/24 3^3/8 5^1/4 7^1/3", "2^-72/23 3^98/23 7^-10/23"), ())
        self.check([(1, 0), (2, 0)], "2^-72/23 3^98/23 7^-10/23, 2^7/24 3^3/8 5^1/4 7^1/3", near)

    def test_moments_without_stops_and_bars(self):
        for kind in range(3):
            piece = f"{KINDS[kind]}\n|\n|\nq {EMPTY[kind]}\n|\n {EMPTY[kind]}\nx {EMPTY[kind]}\n|\n"
            self.assertEqual(played(piece), "song\n|\n|\nq .\n|\n .\nx .\n|\n")

    def test_every_length_sign(self):
        for sign in SIGNS.values():
            for other in SIGNS.values():
                if other != sign:
                    for kind in range(3):
                        rows = f"\n{sign} .\n|\n .\n{other} .\n"
                        self.assertEqual(played(KINDS[kind] + rows.replace(".\n", EMPTY[kind] + "\n")), "song" + rows)

    def test_fewer_courses_and_frets(self):
        small = instrument_text(("2",), ("1", "3"), ("5",))
        self.check([(1, 1), (2, 0), (3, 0)], "2, 3, 5", small)
        for stops in ([(1, 2)], [(2, 2)], [(3, 1)], [(4, 0)], [(14, 0)], [(6, 15)], [(1, 0), (4, 0)], [(1, 0), (2, 9)]):
            for kind in range(3):
                piece = piece_text(kind, [(16, [(1, 0)]), None, (16, stops)])
                self.assertEqual(played(piece, small), [-3], piece)

    def test_courses_from_seven_on_are_open_alone(self):
        deep = instrument_text(("2^1/2", "2"), ["1", "2", "3", "5", "7", "2^2", "2^3", "2^4"], ())
        self.check([(6, 2), (7, 0), (8, 0)], "2^3, 2^3, 2^4", deep)

    def test_basses_below_the_seventh_course(self):
        few = instrument_text(("2^1/2",), ("1",), ("2^-1", "2^-2"))
        self.check([(1, 1), (2, 0), (3, 0)], "2^-2, 2^-1, 2^1/2", few)
        for kind in range(3):
            self.assertEqual(played(piece_text(kind, [(16, [(2, 1)])]), few), [-3])


class Reading(unittest.TestCase):
    def check(self, text, place):
        """The text is refused, and at fault at this place."""
        self.assertIsNone(piece_lines(text), text)
        self.assertEqual(of(as_bytes(STRING), as_bytes(text)), [-8], text)
        with self.assertRaises(Fault) as caught:
            read_piece(as_bytes(text))
        self.assertEqual(caught.exception.place, place, text)

    def check_stops(self, kind, told, place):
        """Stops at fault, in the first moment or another, with something behind them or not."""
        for front in (f"{KINDS[kind]}\nw. ", f"{KINDS[kind]}\n|\nq {EMPTY[kind]}\n|\n "):
            for behind in ("\n", "", "\nZ", "\n|\n"):
                self.check(front + told + behind, len(front) + place)

    def check_row(self, kind, row, place, before=""):
        front = KINDS[kind] + "\n" + before
        self.check(front + row, len(front) + place)


class FirstLines(Reading):
    def test_its_end_too_early(self):
        for name in KINDS:
            for length in range(len(name) + 1):
                self.check(name[:length], length)
            self.check(name + "\n", len(name) + 1)

    def test_another_byte(self):
        for name in KINDS:
            for place in range(len(name) + 1):
                for byte in ("Z", " ", "\n", "\x00", "\xff", "n"):
                    if (name + "\n")[place] != byte:
                        self.check(name[:place] + byte + "\nq .\n", place)


class Rows(Reading):
    def test_no_moment_in_the_end(self):
        for kind in range(3):
            self.check_row(kind, "|\n", 2)
            self.check_row(kind, "|\n" * 512, 1024)

    def test_a_line_of_no_kind(self):
        for kind in range(3):
            for before in ("", "|\n", f"q {EMPTY[kind]}\n"):
                for byte in ("\n", "z", ".", "1", "Q", "a", "\x00", "\xff"):
                    self.check_row(kind, byte + " " + EMPTY[kind] + "\n", 0, before)

    def test_bars(self):
        for kind in range(3):
            for before in ("", "|\n", f"q {EMPTY[kind]}\n"):
                for behind in ("", "|\n", " \n", f"q {EMPTY[kind]}\n"):
                    self.check_row(kind, "|" + behind, 1, before)

    def test_as_many_lines_as_may_be_and_one_more(self):
        for kind in range(3):
            full = f"q {EMPTY[kind]}\n" + f"|\n {EMPTY[kind]}\n" * 255 + "|\n"
            self.assertEqual(played(KINDS[kind] + "\n" + full), "song\nq .\n" + "|\n .\n" * 255 + "|\n")
            for row in ("|\n", f" {EMPTY[kind]}\n", f"e {EMPTY[kind]}\n", "|", "q", "Z", "\n"):
                self.check_row(kind, row, 0, full)

    def test_the_first_moment_without_a_sign(self):
        for kind in range(3):
            for before in ("", "|\n", "|\n|\n"):
                for behind in (EMPTY[kind] + "\n", "", "Z"):
                    self.check_row(kind, " " + behind, 0, before)

    def test_the_length_before(self):
        for kind in range(3):
            for sign in SIGNS.values():
                for between in ("", "|\n", f" {EMPTY[kind]}\n|\n"):
                    before = f"{sign} {EMPTY[kind]}\n" + between
                    for behind in (EMPTY[kind] + "\n", "", "Z"):
                        self.check_row(kind, f"{sign} {behind}", 0, before)
                    self.check_row(kind, sign, len(sign), before)
                    self.check_row(kind, sign + "Z", len(sign), before)

    def test_signs_of_no_length(self):
        for kind in range(3):
            self.check_row(kind, f"x. {EMPTY[kind]}\n", 1)
            self.check_row(kind, f"q.. {EMPTY[kind]}\n", 2)
            self.check_row(kind, f"qe {EMPTY[kind]}\n", 1)
            self.check_row(kind, "q", 1)
            self.check_row(kind, "q.", 2)
            self.check_row(kind, "q\n", 1)


class FrenchAndItalian(Reading):
    def test_signs_that_are_none(self):
        for kind, right, wrong in ((0, "a", "jrstuvwxyz01 |/\n,A&"), (1, "0", "abcdefghijklmnopqrst |/\n,A&")):
            for place in range(6):
                for sign in wrong:
                    self.check_stops(kind, right * place + sign, place)
                    self.check_stops(kind, "." * place + sign + right * 5, place)

    def test_too_few_and_too_many(self):
        for kind, sign in ((0, "a"), (1, "0")):
            for count in range(6):
                self.check_stops(kind, sign * count, count)
                self.check_stops(kind, "." * count, count)
            for behind in (sign, ".", "|", "/", "\x00"):
                self.check_stops(kind, sign * 6 + behind, 6)
                self.check_stops(kind, "......" + behind, 6)

    def test_french_basses_that_are_none(self):
        for told, place in (("", 0), (" ", 0), ("b", 0), ("8", 0), ("3", 0), ("10", 0), (".", 0), ("/", 1), ("/b", 1),
                            ("//", 2), ("///", 3), ("////", 3), ("////a", 3), ("/ a", 1), ("/4", 1), ("aa", 1),
                            ("44", 1), ("a/a", 1), ("a ", 2), ("/a  4", 3), ("a.", 1), ("7 ", 2), ("/A", 1)):
            self.check_stops(0, "...... " + told, 7 + place)
            self.check_stops(0, "abcdef " + told, 7 + place)

    def test_italian_basses_that_are_none(self):
        for told, place in (("", 0), (" ", 0), ("6", 0), ("0", 0), ("a", 0), (".", 0), ("1", 1), ("15", 1), ("19", 1),
                            ("1a", 1), ("1 ", 1), ("77", 1), ("70", 1), ("100", 2), ("141", 2), ("7 ", 2), ("14 ", 3),
                            ("7  8", 2), ("7.", 1), ("-7", 0), ("07", 0)):
            self.check_stops(1, "...... " + told, 7 + place)
            self.check_stops(1, "012345 " + told, 7 + place)

    def test_basses_out_of_order(self):
        french = ("a", "/a", "//a", "///a", "4", "5", "6", "7")
        italian = ("7", "8", "9", "10", "11", "12", "13", "14")
        for kind, signs in ((0, french), (1, italian)):
            for first, second in itertools.product(range(8), repeat=2):
                told = f"...... {signs[first]} "
                if second <= first:
                    self.check_stops(kind, told + signs[second], len(told))
                    # Looked at before what follows.
                    self.check_stops(kind, told + signs[second] + "|", len(told))
                    self.check_stops(kind, told + signs[second] + " ", len(told))
                else:
                    self.assertIsInstance(played(f"{KINDS[kind]}\nq {told}{signs[second]}\n"), str)

    def test_a_bass_not_whole_is_not_looked_at(self):
        self.check_stops(0, "...... 4 /", 10)
        self.check_stops(0, "...... //a //", 13)
        self.check_stops(1, "...... 14 1", 11)
        self.check_stops(1, "...... 14 15", 11)


class German(Reading):
    def test_signs_that_are_none(self):
        for sign in "juw06780JQRZ/|=*\n ,\x00\xff":
            self.check_stops(2, sign, 0)
            self.check_stops(2, "5 " + sign, 2)
        self.check_stops(2, "", 0)
        self.check_stops(2, "5 ", 2)
        self.check_stops(2, "5 .", 2)

    def test_behind_a_point(self):
        for behind in (".", " ", "5", " 5", "a"):
            self.check_stops(2, "." + behind, 1)

    def test_crossings_up_to_three_times(self):
        for sign in "".join(CROSSINGS):
            for times in (1, 2, 3):
                self.assertIsInstance(played(f"german\nq {sign * times}\n"), str)
            for times in (4, 5, 6):
                self.check_stops(2, sign * times, 3)
            self.check_stops(2, sign * 3 + "5", 3)

    def test_signs_that_stand_once(self):
        for sign in "12345+ABCDEFGHIKLMNOP":
            self.check_stops(2, sign * 2, 1)

    def test_behind_a_sign(self):
        for told, place in (("ab", 1), ("aab", 2), ("a5", 1), ("a.", 1), ("5.", 1), ("5a", 1), ("+A", 1), ("5  4", 2),
                            ("99&", 2), ("A-7", 1), ("5,4", 1)):
            self.check_stops(2, told, place)

    def test_courses_from_seven_on(self):
        for told, place in (("-", 1), ("-6", 1), ("-0", 1), ("-a", 1), ("--7", 1), ("-1", 2), ("-15", 2), ("-19", 2),
                            ("-1 ", 2), ("-77", 2), ("-7a", 2), ("-144", 3), ("- 7", 1), ("-07", 1)):
            self.check_stops(2, told, place)

    def test_signs_out_of_order(self):
        for first, (course, _) in GERMAN.items():
            for second in ("5", "4", "3", "2", "1", "+", "e", "ddd", "a", "A", "-7", "-10", "-14", "99"):
                if GERMAN[second][0] > course:
                    self.assertIsInstance(played(f"german\nq {first} {second}\n"), str)
                    continue
                self.check(f"german\nq {first} {second}\n", 10 + len(first))
                self.check(f"german\nq {first} {second}|", 10 + len(first))
                self.check(f"german\nq {first} {second} ", 10 + len(first))

    def test_a_sign_not_whole_is_not_looked_at(self):
        self.check_stops(2, "-14 -", 5)
        self.check_stops(2, "-14 -1", 6)
        # Three times at most: it's whole then, and looked at before the fourth.
        self.check_stops(2, "-7 aaaa", 3)


class Beside(unittest.TestCase):
    SIGNS = "abcjq0123456789xyzvuw./-+AP& |\nethsZ"

    def test_pieces_and_changed_pieces(self):
        chance = random.Random(62)
        taken = 0
        for _ in range(250):
            instrument = chance_instrument(chance)
            lines = chance_piece(chance, places_of(instrument))
            songs = []
            for kind in range(3):
                text = piece_text(kind, lines)
                self.assertEqual(piece_lines(text), lines)
                songs.append(of(as_bytes(instrument), as_bytes(text)))
                self.assertEqual(songs[-1], of_answer(instrument, text), text)
                self.assertEqual(judge(songs[-1][1:]), [len(lines)])
                for _ in range(6):
                    other = changed(text, chance, self.SIGNS)
                    answer = of(as_bytes(instrument), as_bytes(other))
                    self.assertEqual(answer, of_answer(instrument, other), (instrument, other))
                    taken += answer[0] > 0
            self.assertEqual(songs, [songs[0]] * 3)
        self.assertGreater(taken, 200)

    def test_a_piece_cut_anywhere(self):
        lines = [(16, [(1, 15), (2, 3), (6, 10), (8, 0), (10, 0), (14, 0)]), None, (24, [(3, 11)]), (24, [])]
        for kind in range(3):
            text = piece_text(kind, lines)
            for length in range(len(text) + 1):
                self.assertEqual(of(as_bytes(LUTE), as_bytes(text[:length])), of_answer(LUTE, text[:length]))

    def test_any_byte_anywhere(self):
        lines = [(16, [(1, 15), (5, 6), (6, 10), (8, 0), (10, 0)]), None, (24, [(3, 1)]), (24, [])]
        for kind in range(3):
            text = piece_text(kind, lines)
            for place in range(len(text)):
                for byte in range(256):
                    other = text[:place] + chr(byte) + text[place + 1:]
                    taken = of(as_bytes(STRING), as_bytes(other)) != [-8]
                    self.assertEqual(taken, piece_lines(other) is not None, other)

    def test_texts_and_pieces_are_one_to_one(self):
        chance = random.Random(63)
        for _ in range(200):
            lines = chance_piece(chance, places_of(LUTE))
            told = [(0, []) if line is None else line for line in lines]
            for kind in range(3):
                text = as_bytes(piece_text(kind, lines))
                self.assertEqual(read_piece(text), told)
                self.assertEqual(write_piece(kind, told), text)


class Edges(unittest.TestCase):
    def test_the_greatest_pieces(self):
        stops = [(course, 15 if course <= 6 else 0) for course in range(1, 15)]
        for kind in range(3):
            piece = piece_text(kind, [(96, stops)] * 512)
            answer = of(as_bytes(LUTE), as_bytes(piece))
            self.assertEqual(answer, of_answer(LUTE, piece))

    def test_the_longest_answer(self):
        instrument = instrument_text((), [LONGEST] * 14, ())
        piece = piece_text(2, [(1, [(course, 0) for course in range(1, 15)])] * 512)
        answer = of(as_bytes(instrument), as_bytes(piece))
        self.assertEqual(answer, of_answer(instrument, piece))
        self.assertGreater(answer[0], 200000)

    def test_as_many_bytes_as_may_be_and_one_more(self):
        # No piece's text is so long: it's at fault, but not too long.
        for kind in range(3):
            text = piece_text(kind, [(16, [])])
            full = as_bytes(text) + [32] * (65536 - len(text))
            self.assertEqual(of(as_bytes(LUTE), full), [-8])
            self.assertEqual(of(as_bytes(LUTE), full + [32]), [-2])
            self.assertEqual(of(as_bytes(LUTE), full + [32] * (110000 - 65536)), [-2])

    def test_the_order_of_refusals(self):
        long_piece, long_instrument = [0] * 65537, [0] * 4097
        no_piece, no_instrument = as_bytes("french\n"), as_bytes("length 60000\n")
        unfit, fit = as_bytes("french\nq a.....\n"), as_bytes("french\nq ......\n")
        small = as_bytes(LUTE.replace("course", "bass").replace("bass", "course", 1))
        high = as_bytes("french\nq .b....\n")
        self.assertEqual(of(small, high), [-3])
        for i in (long_instrument, no_instrument, small, as_bytes(LUTE)):
            self.assertEqual(of(i, long_piece), [-2])
        for t in (long_piece, no_piece, unfit, fit):
            self.assertEqual(of(long_instrument, t), [-2])
        for t in (no_piece, high, fit):
            self.assertEqual(of(no_instrument, t), [-6])
        self.assertEqual(of(small, no_piece), [-8])
        self.assertEqual(of(small, high + as_bytes("Z")), [-8])

    def test_what_is_handed_in_stays_and_nothing_is_kept(self):
        texts = ("french\nq ab....\n", "french\n", "german\nq 5 4 -7\n", "italian\nq ......\n", "", " " * 65537)
        instruments = (LUTE, instrument_text((), ("1",), ()), "", " " * 4097)
        first = []
        for instrument, text in itertools.product(instruments, texts):
            i, t = as_bytes(instrument), as_bytes(text)
            answer = of(i, t)
            self.assertEqual((i, t), (as_bytes(instrument), as_bytes(text)))
            self.assertIs(type(answer), list)
            self.assertEqual({type(number) for number in answer}, {int})
            first.append(list(answer))
            answer.append(7)
        again = [of(as_bytes(instrument), as_bytes(text)) for instrument, text in itertools.product(instruments, texts)]
        self.assertEqual(again, first)

    def test_every_note_as_often_as_it_is_there(self):
        chance = random.Random(64)
        for _ in range(100):
            instrument = chance_instrument(chance)
            places = places_of(instrument)
            lines = chance_piece(chance, places)
            song = played(piece_text(chance.randrange(3), lines), instrument)
            for line, told in zip(lines, song_lines(song)):
                if line is not None:
                    self.assertEqual(told[1], in_order([places[stop] for stop in line[1]]))
                    self.assertIn(told[0], LENGTHS.values())
                    self.assertEqual([interval_of(interval_text(note)) for note in told[1]], told[1])


if __name__ == "__main__":
    unittest.main()
