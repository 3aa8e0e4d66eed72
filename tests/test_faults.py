"""Where a song's text is at fault, kind by kind of fault, told by hand from the document."""

import unittest

from lutesettings.songs import judge, sizes
from reference import as_bytes

FRONT = "song\nq "


class Faults(unittest.TestCase):
    def check(self, text, place):
        self.assertEqual(judge(as_bytes(text)), [-6, place], text)
        self.assertEqual(sizes(as_bytes(text)), [-6], text)

    def check_note(self, note, place):
        """A note's fault is the same whatever ends its text."""
        for behind in ("\n", "", ", 7\n", ",", "\nZ"):
            self.check(FRONT + note + behind, len(FRONT) + place)
        second = FRONT + "7^-99, "
        self.check(second + note + "\n", len(second) + place)

    def check_row(self, row, place, before="song\n"):
        """A line's fault, behind what stands before it."""
        self.check(before + row, len(before) + place)


class FirstLine(Faults):
    def test_an_empty_text(self):
        self.check("", 0)

    def test_its_end_too_early(self):
        for length in range(5):
            self.check("song\n"[:length], length)

    def test_another_byte(self):
        for place in range(5):
            for byte in ("Z", " ", "\n", "s", "\x00", "\xff"):
                if byte != "song\n"[place]:
                    self.check("song\n"[:place] + byte + "song\nq .\n", place)


class Lines(Faults):
    def test_no_moment_in_the_end(self):
        self.check("song\n", 5)
        self.check("song\n|\n", 7)
        self.check("song\n" + "|\n" * 512, 1029)

    def test_a_line_of_no_kind(self):
        for byte in ("\n", "z", ".", "1", ",", "Q", "a", "\x00", "\xff"):
            self.check_row(byte + " .\n", 0)
            self.check_row(byte + " .\n", 0, "song\nq .\n")
            self.check_row(byte + " .\n", 0, "song\n|\n")

    def test_a_bar_with_something_behind_it(self):
        for behind in ("|\n", " \n", " .\n", "q .\n", "."):
            self.check_row("|" + behind, 1)
            self.check_row("|" + behind, 1, "song\nq .\n")

    def test_a_bar_without_its_end(self):
        self.check_row("|", 1)
        self.check_row("|", 1, "song\nq .\n")

    def test_a_line_too_many(self):
        full = "song\nq .\n" + "|\n" * 511
        for row in ("|\n", " .\n", "e .\n", "q .\n", "|", " ", "Z", "\n", "e 2^1\n", "\x00"):
            self.check_row(row, 0, full)
        bars = "song\n" + "|\n" * 512
        for row in ("|\n", "q .\n", " .\n", "Z"):
            self.check_row(row, 0, bars)

    def test_a_fault_before_the_line_too_many(self):
        text = "song\nq .\n" + "|\n" * 510 + " 0\n" + "|\n"
        self.check(text, text.index("0"))


class Lengths(Faults):
    def test_the_first_moment_without_a_sign(self):
        self.check_row(" .\n", 0)
        self.check_row(" .\n", 0, "song\n|\n|\n")
        self.check_row(" ", 0)
        self.check_row(" Z", 0)

    def test_the_length_before(self):
        for sign in ("x", "t", "s", "e", "q", "h", "w", "t.", "s.", "e.", "q.", "h.", "w."):
            for between in ("", "|\n", "|\n|\n", " 2\n", " .\n|\n"):
                before = f"song\n{sign} .\n{between}"
                self.check_row(f"{sign} .\n", 0, before)
                # Looked at at its blank, before what follows.
                self.check_row(f"{sign} ", 0, before)
                self.check_row(f"{sign} Z", 0, before)

    def test_the_length_before_is_looked_at_only_at_the_blank(self):
        self.check_row("q", 1, "song\nq .\n")
        self.check_row("q.", 2, "song\nq. .\n")
        self.check_row("qZ", 1, "song\nq .\n")
        self.check_row("q.Z", 2, "song\nq. .\n")
        self.check_row("q\n", 1, "song\nq .\n")

    def test_a_sign_without_its_blank(self):
        for sign in ("x", "t", "e.", "w."):
            for behind in ("", "\n", "1", ",", "q", "|"):
                self.check_row(sign + behind, len(sign))

    def test_a_point_that_cannot_stand(self):
        self.check_row("x. .\n", 1)
        self.check_row("q.. .\n", 2)
        self.check_row(". .\n", 0)


class Notes(Faults):
    def test_nothing_behind_the_blank(self):
        self.check(FRONT, 7)
        self.check(FRONT + "\n", 7)
        self.check(FRONT + ", 2\n", 7)
        self.check(FRONT + " .\n", 7)

    def test_something_behind_the_point(self):
        for behind in ("", ".", " ", "2", ",", ", 2\n", " \n"):
            self.check(FRONT + "." + behind, 8)

    def test_a_point_among_notes(self):
        self.check(FRONT + "2, .\n", 10)
        self.check(FRONT + "2.\n", 8)

    def test_between_two_notes(self):
        self.check(FRONT + "2,", 9)
        self.check(FRONT + "2,3\n", 9)
        self.check(FRONT + "2,\n", 9)
        self.check(FRONT + "2,, 3\n", 9)
        self.check(FRONT + "2, ", 10)
        self.check(FRONT + "2, \n", 10)
        self.check(FRONT + "2,  3\n", 10)
        self.check(FRONT + "2 , 3\n", 9)

    def test_a_note_without_its_end(self):
        self.check(FRONT + "2", 8)
        self.check(FRONT + "1", 8)
        self.check(FRONT + "2^-1 3, 2^7/5", 20)

    def test_a_narrower_note(self):
        for first, second in (("2", "1"), ("1", "2^-1"), ("3", "2"), ("2^-1 3", "2^7/12"), ("2^1/23", "2^1/24"),
                              ("2^-1/24", "2^-1/23"), ("2^-2 5", "2^1/4"), ("7^99", "7^98"), ("2^2", "3")):
            for behind in ("\n", "", ",", ", 7^99\n", "\nZ"):
                self.check(f"{FRONT}{first}, {second}{behind}", 9 + len(first))
        self.check(FRONT + "1, 2, 2, 1\n", 16)

    def test_a_narrower_note_is_looked_at_behind_it(self):
        self.check(FRONT + "7, 1 \n", 11)
        self.check(FRONT + "7, 2^\n", 12)
        self.check(FRONT + "7, 2Z\n", 11)
        self.check(FRONT + "7, 2^100\n", 15)
        self.check(FRONT + "7, 2 ", 12)

    def test_order_starts_anew_with_each_moment(self):
        self.assertEqual(judge(as_bytes("song\nq 7\n 1\n|\n 2^-1, 1\n")), [4])

    def test_a_fifteenth_note(self):
        full = FRONT + ", ".join(["2"] * 14)
        for note in ("2\n", "2", "3, 3\n", "1\n", "Z\n", "\n", ",", ".", "2^1/", ""):
            self.check(full + ", " + note, len(full) + 2)

    def test_before_the_fifteenth_note(self):
        full = FRONT + ", ".join(["2"] * 14)
        self.check(full, len(full))
        self.check(full + ",", len(full) + 1)
        self.check(full + ",2", len(full) + 1)
        self.check(full + ".", len(full))
        self.check(full[:-1] + "1, 2\n", len(full) - 1)


class IntervalsTexts(Faults):
    def test_a_byte_that_cannot_begin(self):
        for note in ("0", "4", "6", "8", "9", "^", "-", "/", " ", "a", "\x00", "\xff", "-2", " 2"):
            self.check_note(note, 0)
        self.check_note("", 0)

    def test_behind_one(self):
        for behind in ("1", " ", " 2", "^", "^2", "/", "0", "a", "."):
            self.check_note("1" + behind, 1)

    def test_behind_a_digit_alone(self):
        for behind in ("2", "1", "/", "/2", "-1", "a", "0", ".", "|"):
            self.check_note("2" + behind, 1)
            self.check_note("2 3" + behind, 3)

    def test_behind_a_blank(self):
        for behind in ("", " ", "1", "0", "4", "^", "a"):
            self.check_note("2 " + behind, 2)
            self.check_note("2^-1 " + behind, 5)

    def test_behind_the_sign_of_a_power(self):
        for behind in ("", " ", "^", "/", "/2", "+1", "a", ":"):
            self.check_note("2^" + behind, 2)

    def test_behind_a_minus_sign(self):
        for behind in ("", " ", "-", "0", "00", "01", "0/2", "/", "a"):
            self.check_note("2^-" + behind, 3)

    def test_behind_a_power(self):
        self.check_note("2^2^", 3)
        self.check_note("2^2a", 3)
        self.check_note("2^2:", 3)
        self.check_note("2^2-", 3)
        self.check_note("2^2.", 3)
        self.check_note("2^3/2^", 5)
        self.check_note("2^3/2/", 5)
        self.check_note("2^3/2/2", 5)
        self.check_note("2^3/2a", 5)

    def test_behind_the_line_of_a_fraction(self):
        for behind in ("", " ", "-", "-2", "/", "a", "^"):
            self.check_note("2^3/" + behind, 4)

    def test_a_fifth_digit(self):
        self.check_note("2^12345", 6)
        self.check_note("2^-12345", 7)
        self.check_note("2^1/12345", 8)
        self.check_note("2^100000000", 6)
        # Looked at before the factor stands whole.
        self.check_note("3 2^12345", 8)
        self.check_note("2^2/40000", 8)

    def test_four_digits(self):
        self.check_note("2^1234", 6)
        self.check_note("2^-9999", 7)
        self.check_note("2^1/9999", 8)
        self.check_note("2^9999/9998", 11)
        self.check_note("2^1234a", 6)

    def test_a_digit_behind_a_nought(self):
        self.check_note("2^00", 3)
        self.check_note("2^01", 3)
        self.check_note("2^1/02", 5)
        self.check_note("2^1/00", 5)
        self.check_note("3 2^07", 5)

    def test_a_factor_not_above_the_one_before(self):
        digits = "2357"
        for first in digits:
            for second in digits:
                if second <= first:
                    self.check_note(f"{first} {second}", 2)
                    self.check_note(f"{first} {second}^2", 2)
                    self.check_note(f"{first}^-2 {second}^1/2", 5)
                    self.check_note(f"{first} {second}a", 2)
                    self.check_note(f"{first} {second} a", 2)
                    self.check_note(f"{first} {second}^2a", 2)
                    # Not whole yet.
                    self.check_note(f"{first} {second}^", 4)
                    self.check_note(f"{first} {second}^a", 4)
                    self.check_note(f"{first} {second}^2/", 6)
        self.check_note("2 5 3", 4)
        self.check_note("2 3 3 5", 4)

    def test_a_power_of_nought(self):
        self.check_note("2^0", 0)
        self.check_note("2^0 3", 0)
        self.check_note("2^0a", 0)
        self.check_note("2^0/2", 0)
        self.check_note("2^0/1", 0)
        self.check_note("2^0/0", 0)
        self.check_note("2^0/", 4)
        self.check_note("2 3^0", 2)

    def test_a_power_told_though_it_is_one(self):
        self.check_note("2^1", 0)
        self.check_note("2^1 3", 0)
        self.check_note("2^1a", 0)
        self.check_note("3 5^1 7", 2)
        self.check_note("2^1/", 4)
        self.check_note("2^1/a", 4)

    def test_a_fraction_not_in_lowest_terms(self):
        for power in ("2/4", "2/2", "-2/4", "3/3", "6/4", "99/33", "-12/18", "9999/9999", "1000/1002"):
            self.check_note("2^" + power, 0)
            self.check_note("2^" + power + "/", 0)
            self.check_note("2^" + power + "a", 0)
            self.check_note("2^" + power + " a", 0)
            self.check_note("2 3^" + power, 2)

    def test_a_fraction_by_nought_or_one(self):
        for power in ("1/0", "1/1", "2/1", "-1/1", "-3/0", "2/0", "99/1"):
            self.check_note("2^" + power, 0)
            self.check_note("2^" + power + "/", 0)
            self.check_note("2 3^" + power + " 5", 2)

    def test_no_interval_in_the_end(self):
        for note in ("2^100", "2^-100", "3^100", "5^-100", "7^101", "2^1/25", "2^9999", "2^-100/3", "2^101/2",
                     "2^1/5 3^1/7", "2^1/24 3^1/7", "2^1/16 7^1/3", "2^50 3^1/2", "2^-5 3^1/23", "2^99 3^1/2",
                     "2^99 3^100 5", "2 3^100", "2^5000/4999", "2^1/23 3^1/24"):
            self.check_note(note, len(note))

    def test_no_interval_is_looked_at_in_the_end(self):
        self.check_note("2^100a", 5)
        self.check_note("2^100 ", 6)
        self.check_note("2^100 2", 6)
        self.check_note("2^1/25 3^1", 7)
        self.check_note("2^1/25/", 6)

    def test_just_an_interval(self):
        for note in ("2^99", "2^-99", "2^1/24", "2^1/3 3^1/8", "2^99/2 3^49", "2^4 3^1/23", "2^-33 3^1/3"):
            self.assertEqual(judge(as_bytes(FRONT + note + "\n")), [1])


if __name__ == "__main__":
    unittest.main()
