"""Point 4: a web written as a text, and a text read to a web."""

import itertools
import re
import unittest

from shortring.notes import read, shown
from shortring.webs import Web, web_of
from tests.helpers import all_pairs, great_tie_lists, refused, some_webs

FORM = re.compile("(0|[1-9][0-9]?):((?: (?:0|[1-9][0-9]?)-(?:0|[1-9][0-9]?))*)")

EXAMPLE = "4: 0-1 0-3 2-3"

BLANKS = (" ", "\n", "\t", "\r", "\r\n", "\x0b", "\x0c", "\x1c", "\x85", "\u00a0", "\u2028", "\u3000", "\ufeff")


def meant(text):
    """The points and ties of the web that is written so, or None."""
    found = FORM.fullmatch(text)
    if found is None:
        return None
    many = int(found[1])
    ties = [tuple(map(int, word.split("-"))) for word in found[2].split()]
    sound = many <= 60 and all(low < high < many for low, high in ties)
    if sound and all(one < other for one, other in itertools.pairwise(ties)):
        return many, ties
    return None


class Notes(unittest.TestCase):

    def refuse(self, text):
        self.assertIsNone(meant(text))
        refused(self, "BadText", read, text)

    def check(self, text):
        """The text is read, or refused, just as it has to be."""
        told = meant(text)
        if told is None:
            refused(self, "BadText", read, text)
        else:
            web = read(text)
            self.assertEqual((web.many, web.ties()), told)


class Writing(Notes):

    def test_defined_in_its_file(self):
        self.assertEqual(shown.__module__, "shortring.notes")
        self.assertEqual(read.__module__, "shortring.notes")

    def test_as_the_document_shows_it(self):
        self.assertEqual(shown(web_of(4, [(2, 3), (3, 0), (0, 1)])), EXAMPLE)
        self.assertEqual(shown(web_of(0, [])), "0:")

    def test_ordinary_webs(self):
        self.assertEqual(shown(web_of(1, [])), "1:")
        self.assertEqual(shown(web_of(2, [(1, 0), (0, 1)])), "2: 0-1")
        self.assertEqual(shown(web_of(60, [])), "60:")
        self.assertEqual(shown(web_of(60, [(59, 9), (9, 10), (0, 59)])), "60: 0-59 9-10 9-59")
        whole = "60:" + "".join(f" {low}-{high}" for low, high in all_pairs(60))
        self.assertEqual(shown(web_of(60, all_pairs(60))), whole)

    def test_names_of_the_arguments(self):
        self.assertEqual(shown(web=read(text=EXAMPLE)), EXAMPLE)

    def test_writing_changes_nothing(self):
        web = web_of(4, [(2, 3), (3, 0), (0, 1)])
        self.assertEqual(shown(web), shown(web))
        self.assertEqual(web.ties(), [(0, 1), (0, 3), (2, 3)])


class Reading(Notes):

    def test_what_is_written_is_read(self):
        for web, ties in some_webs():
            text = shown(web)
            self.assertEqual(meant(text), (web.many, ties))
            again = read(text)
            self.assertIs(again.__class__, Web)
            self.assertEqual(again.many, web.many)
            self.assertEqual(again.ties(), ties)
            for point in range(web.many):
                self.assertEqual(again.beside(point), web.beside(point))
            self.assertEqual(shown(again), text)

    def test_each_reading_is_a_web_of_its_own(self):
        first = read(EXAMPLE)
        first.ties().clear()
        first.beside(0).clear()
        second = read(EXAMPLE)
        self.assertEqual(second.ties(), [(0, 1), (0, 3), (2, 3)])
        self.assertEqual(second.beside(0), [1, 3])

    def test_every_short_text(self):
        for size in range(7):
            for signs in itertools.product("0123:- ", repeat=size):
                self.check("".join(signs))

    def test_one_sign_left_out_put_in_or_exchanged(self):
        signs = "0123456789:- \n\t+_,.;x\0\u0663\uff11\u00b2\u00a0\u2013"
        for text in ("0:", "1:", "60:", EXAMPLE, "12: 0-11 1-10 2-3", "60: 8-59 9-10"):
            for at in range(len(text)):
                self.check(text[:at] + text[at + 1:])
                for sign in signs:
                    self.check(text[:at] + sign + text[at + 1:])
            for at in range(len(text) + 1):
                for sign in signs:
                    self.check(text[:at] + sign + text[at:])

    def test_two_signs_exchanged_with_each_other(self):
        for text in (EXAMPLE, "12: 0-11 1-10 2-3"):
            for one, other in itertools.combinations(range(len(text)), 2):
                signs = list(text)
                signs[one], signs[other] = signs[other], signs[one]
                self.check("".join(signs))

    def test_parts_of_texts(self):
        for web, _ in some_webs():
            text = shown(web)
            for at in range(min(len(text), 40)):
                self.check(text[:at])
                self.check(text[at + 1:])


class Refusing(Notes):

    def test_nothing_and_blanks(self):
        for text in ("", " ", "\n", ":", "-", " :", ": ", ":0", "x", "0-1", " 0-1", ": 0-1"):
            self.refuse(text)

    def test_colons(self):
        for text in ("4", "0", "4 0-1", "4 0-1 0-3 2-3", "4; 0-1"):
            self.refuse(text)
        for text in ("4:: 0-1", "4: 0-1:", "4: 0:1", ":4: 0-1", "0::"):
            self.refuse(text)

    def test_blanks_and_line_feeds(self):
        for sign in BLANKS:
            for text in (sign + EXAMPLE, EXAMPLE + sign, "0:" + sign, sign + "0:", "0" + sign + ":", "1:" + sign):
                self.refuse(text)
            self.refuse(EXAMPLE.replace(" ", sign + " "))
            self.refuse(EXAMPLE.replace(" ", " " + sign))
            self.refuse(EXAMPLE.replace("-", "-" + sign))
            self.refuse(EXAMPLE.replace("-", sign + "-"))
            if sign != " ":
                self.refuse(EXAMPLE.replace(" ", sign))
        for text in ("4:0-1 0-3 2-3", "4: 0-10-3 2-3", "4: 0-1 0-32-3", "4:0-10-32-3"):
            self.refuse(text)

    def test_malformed_numbers(self):
        numbers = ("00", "01", "+1", "-1", "_1", "1_", "0_1", "1_0", "--1", "1.0", "1e0", "0x1", "0b1", "", " 1", "1 ")
        numbers += ("\u0661", "\uff11", "\u00b9", "\u2460", "\u0967", "\u4e00", "\U0001d7d9", "1\u0301", "\ud800")
        for number in numbers:
            for text in (f"{number}:", f"{number}: 0-1"):
                self.refuse(text)
            for text in (f"4: 0-{number}", f"4: {number}-3", f"4: 0-1 {number}-3"):
                self.refuse(text)
        for text in ("-0:", "+0:", "00:", "04: 0-1", "4: -0-1", "4: 0--1", "4: 0-01", "4: 00-1", "\uff10:"):
            self.refuse(text)

    def test_very_long_numbers(self):
        for sign in "0149\u0661":
            for size in (3, 20, 5000, 100000):
                number = sign * size
                for text in (number, f"{number}:", f"{number}: 0-1"):
                    self.refuse(text)
                for text in (f"4:{number}", f"4: 0-{number}", f"4: {number}-3"):
                    self.refuse(text)

    def test_ties_out_of_order(self):
        for text in ("4: 0-3 0-1", "4: 0-3 0-1 2-3", "4: 2-3 0-1", "4: 1-2 0-3", "4: 0-1 2-3 0-3"):
            self.refuse(text)
        self.refuse("12: 0-10 0-2")
        self.refuse("12: 10-11 2-3")

    def test_ties_told_twice(self):
        for text in ("2: 0-1 0-1", "4: 0-1 0-1 2-3", "4: 0-1 2-3 0-1", "2: 0-1 1-0", "4: 0-1 2-3 2-3"):
            self.refuse(text)

    def test_greater_point_ahead_or_the_same_twice(self):
        for text in ("2: 1-0", "4: 0-1 3-2", "4: 3-0 2-3", "60: 59-0", "12: 10-9"):
            self.refuse(text)
        for text in ("1: 0-0", "4: 0-0", "4: 0-1 1-1 2-3", "4: 3-3", "60: 59-59"):
            self.refuse(text)

    def test_points_that_are_not_there(self):
        for text in ("0: 0-0", "0: 0-1", "1: 0-1", "4: 0-4", "4: 4-5", "4: 0-1 3-4"):
            self.refuse(text)
        for text in ("4: 0-99", "60: 0-60", "60: 60-61", "60: 59-60"):
            self.refuse(text)

    def test_malformed_ties(self):
        for tie in ("0", "0-", "-1", "-", "0-1-2", "0--1", "01", "0:1", "0,1", "0=1", "(0, 1)", "0-1,", "a-b"):
            self.refuse(f"4: {tie}")
            self.refuse(f"4: {tie} 2-3")
            self.refuse(f"4: 0-1 {tie}")
            self.refuse(f"4:{tie}")

    def test_too_many_points(self):
        for many in (61, 62, 99, 100, 160, 600, 1000, 2**64):
            self.refuse(f"{many}:")
            self.refuse(f"{many}: 0-1")

    def test_whole_texts_twice(self):
        for ties in great_tie_lists():
            text = shown(web_of(60, ties))
            for other in (text + text, text + "\n" + text, text + " " + text, text + " 1-0"):
                self.refuse(other)


if __name__ == "__main__":
    unittest.main()
