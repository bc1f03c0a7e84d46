"""Texts there and back, with other blanks, and each column of SyntaxProblem by the words of point 13."""

import random
import re
import unittest

from metnumbers.errors import NoBar, NoParty, SyntaxProblem
from metnumbers.parties import is_party
from metnumbers.texts import format_bar, format_meeting, format_party, parse_bar, parse_meeting, parse_party
from tests.cases import Case
from tests.odd_things import odd_things
from tests.plain import all_bars, choices, drawn_parties, pairs_of, small_parties
from tests.plain_texts import ALPHABET, bar_text, is_text, meeting_text, party_text, rows_of, wrong_column

PARSERS = {"party": parse_party, "meeting": parse_meeting, "bar": parse_bar}
RIGHT = {
    "party": ["1", "?", "2 1 1 ?; met 0 1; apart 0 3", "0 0 0 0 0 0 0 0; met 0 1, 0 7, 6 7", "20 ?; apart 0 1, 5 6"],
    "meeting": ["-", "0 1", "0 1, 0 2, 1 2, 6 7", "0 7, 1 2"],
    "bar": ["- / -", "0 / 1", "- / 0 2 7", "0 1 2 3 / 4 5 6 7", "7 / -", "7 / 7"],
}
BROKEN = ["x", "met1", "10", "07", "00", "Met", ".", "\n", "longnames", "99999999999", "2a", "a" * 8, "8", "21", "20", "%"]


def drawn_blanks(draw, text):
    """Return a text with other blanks between its tokens, ahead of them and behind them, and none where it may be."""
    found = draw.choice(["", "", " ", "\t "])
    for row, _ in rows_of(text):
        # Only rows of letters and digits would run into one.
        needed = bool(found) and bool(re.search("[a-z0-9]$", found)) and bool(re.match("[a-z0-9]", row))
        found += draw.choice([" ", "\t", "  ", " \t "]) if needed or draw.random() < 0.5 else ""
        found += row
    return found + draw.choice(["", "", " ", " \t"])


def drawn_meetings(seed, count):
    draw = random.Random(seed)
    return [tuple(pair for pair in pairs_of(8) if draw.random() < often) for often in (0.05, 0.2, 0.9) for _ in range(count)]


class TextCase(Case):
    def assert_text(self, kind, text):
        """Assert that a text is right, or wrong at the right column; return this column."""
        column = wrong_column(kind, text)
        if column is None:
            try:
                PARSERS[kind](text)
            except (NoParty, NoBar):
                pass
        else:
            error = self.assert_refused(SyntaxProblem, PARSERS[kind], text)
            self.assertEqual((error.line, error.column), (1, column), (kind, text))
        return column

    def assert_wrong(self, kind, text, column):
        error = self.assert_refused(SyntaxProblem, PARSERS[kind], text)
        self.assertEqual((error.line, error.column), (1, column), (kind, text))
        self.assertEqual(wrong_column(kind, text), column, (kind, text))


class ThereAndBackTest(TextCase):
    def test_parties(self):
        draw = random.Random(141)
        for party in small_parties((0, 20, None))[::5] + drawn_parties(141, range(1, 9), 15):
            text = format_party(party)
            self.assertEqual(text, party_text(party))
            self.assertEqual(parse_party(text), party)
            self.assertEqual(parse_party(drawn_blanks(draw, text)), party)

    def test_meetings(self):
        draw = random.Random(142)
        for meeting in drawn_meetings(142, 20) + [(), tuple(pairs_of(8))]:
            text = format_meeting(meeting)
            self.assertEqual(text, meeting_text(meeting))
            self.assertEqual(parse_meeting(text), meeting)
            self.assertEqual(parse_meeting(drawn_blanks(draw, text)), meeting)

    def test_bars(self):
        draw = random.Random(143)
        for bar in all_bars(8)[::13] + all_bars(2):
            text = format_bar(bar)
            self.assertEqual(text, bar_text(bar))
            self.assertEqual(parse_bar(text), bar)
            self.assertEqual(parse_bar(drawn_blanks(draw, text)), bar)

    def test_no_blanks_and_many(self):
        party = ((2, 1, 1, None, 12), ((0, 1), (0, 2)), ((0, 3),))
        for text in [
            "2 1 1?12;met 0 1,0 2;apart 0 3", "2 1 1 ? 12;met 0 1 , 0 2 ; apart 0 3",
            "\t2\t1\t1?\t12;\tmet\t0\t1,\t0\t2\t;apart\t0\t3\t", "   2 1 1 ?12 ;met   0   1,0 2;apart 0 3   ",
        ]:
            self.assertEqual(parse_party(text), party)
        self.assertEqual(parse_party("??"), ((None, None), (), ()))
        self.assertEqual(parse_party("1?1;apart 0 2"), ((1, None, 1), (), ((0, 2),)))
        self.assertEqual([parse_bar("-/-"), parse_bar("0 1/-"), parse_bar("-/0 1")], [((), ()), ((0, 1), ()), ((), (0, 1))])
        self.assertEqual([parse_meeting(" - "), parse_meeting("\t0 1,2 3")], [(), ((0, 1), (2, 3))])
        self.assertEqual(parse_party(" " * 2000 + "1" + "\t" * 2000), ((1,), (), ()))

    def test_kinds(self):
        party = parse_party("1 ?; met 0 1")
        self.assertEqual(repr(party), "((1, None), ((0, 1),), ())")
        self.assertTrue(is_party(party))
        self.assertEqual(repr(parse_meeting("0 1")), "((0, 1),)")
        self.assertEqual(repr(parse_bar("0 / -")), "((0,), ())")


class ColumnTest(TextCase):
    def test_empty_texts_and_blanks(self):
        for kind in PARSERS:
            for text in ["", " ", "\t", "    ", " \t \t"]:
                self.assert_wrong(kind, text, len(text) + 1)

    def test_what_is_no_token(self):
        for kind in PARSERS:
            for text, column in [
                ("1 A", 3), ("1 1.", 4), ("x1y2z3abc", 1), ("abcdefghi", 1), ("1 01", 3), ("1 00", 3), ("  007", 3),
                ("1 12345678901", 3), ("1 2ann", 3), ("1 1\n", 4), ("\n", 1), ("1 ;met 0 1 \n", 12), ("1 +1", 3), ("~", 1),
                ("1 2 _", 5), ("1 2a3", 3), ("met0apart1", 1), ("0x", 1), ("1 (", 3), ("1 \"", 3), ("ABC", 1), ("aBc", 2),
            ]:
                self.assert_wrong(kind, text, column)
        # The longest integer and the longest name are tokens, though none that can stand there.
        for kind in PARSERS:
            for right, wrong in [("1234567890", "12345678901"), ("abcdefgh", "abcdefghi"), ("0", "00"), ("a0", "0a")]:
                self.assert_wrong(kind, "; " + right, 1)
                self.assert_wrong(kind, "; " + wrong, 3)

    def test_all_tokens_are_read_first(self):
        for kind in PARSERS:
            self.assert_wrong(kind, "; ; 1 met - A", 13)
            self.assert_wrong(kind, "/ , 01", 5)
            self.assert_wrong(kind, "met met met\nmet", 12)

    def test_parties(self):
        for text, column in [
            ("21", 1), ("1 21", 3), ("1 1 1 1 1 1 1 1 1", 17), ("1 1 1 1 1 1 1 1 ?", 17), ("-", 1), (",", 1), (";", 1),
            ("met", 1), ("1, 1", 2), ("1 - 1", 3), ("1 / 1", 3), ("1;", 3), ("1; ", 4), ("1; 1", 4), ("1; met", 7),
            ("1; met ", 8), ("1; met 0", 9), ("1; met 7", 8), ("1; met 0 0", 10), ("1; met 1 0", 10), ("1; met 0 8", 10),
            ("1; met 8 9", 8), ("1; met 0 1 2", 12), ("1; met 0 1,", 12), ("1; met 0 1, 0 1", 15), ("1; met 0 2, 0 1", 15),
            ("1; met 1 2, 0 3", 13), ("1; met 0 7, 0 7", 13), ("1; met 6 7,", 11), ("1; met 6 7, 0 1", 11), ("1; met -", 8),
            ("1; met 0 1; met 0 2", 13), ("1; apart 0 1; met 0 2", 13), ("1; apart 0 1;", 13), ("1; apart 0 1; apart 0 2", 13),
            ("1; met 0 1; apart 0 1; ", 22), ("1; met 0 1; 1", 13), ("1; met ?", 8), ("1; meta 0 1", 4), ("1; apart", 9),
            ("1 met 0 1", 3), ("1; met 0 1 apart 0 2", 12), ("1; open 0 1", 4), ("1; met 0 1; apart 7", 19), ("? 20 ? 21", 8),
            ("1; met 0 1, met", 13), ("1;; met 0 1", 3), ("1; met, 0 1", 7), ("20 20 1234567890", 7),
        ]:
            self.assert_wrong("party", text, column)

    def test_meetings(self):
        for text, column in [
            ("- -", 3), ("- 0 1", 3), ("0 1 -", 5), ("0 1, -", 6), ("0", 2), ("7", 1), ("0 1, 7", 6), ("5 7, 5 7", 6),
            ("5 6, 5 6", 8), ("5 6, 5 7", None), ("5 7, 6 7", None), ("5 7, 6 6", 8), ("6 7, 6 7", 4), ("6 7,", 4), ("0 1;", 4),
            ("?", 1), ("0 ?", 3), ("met 0 1", 1), ("0 1 0 2", 5), ("0, 1", 2), (", 0 1", 1), ("0 1,, 0 2", 5), ("0 10", 3),
            ("0 7, 0", 6), ("1 0", 3), ("0 1/", 4),
        ]:
            if column is None:
                self.assertIsNone(self.assert_text("meeting", text))
            else:
                self.assert_wrong("meeting", text, column)

    def test_bars(self):
        for text, column in [
            ("-", 2), ("0", 2), ("0 1", 4), ("- -", 3), ("- 0 / -", 3), ("0 - / -", 3), ("/", 1), ("/ 0", 1), ("0 /", 4),
            ("0 / ", 5), ("0 / /", 5), ("0 / 1 / 2", 7), ("1 0 / -", 3), ("0 0 / -", 3), ("0 / 2 1", 7), ("0 / 1 1", 7),
            ("8 / -", 1), ("0 / 8", 5), ("7 0 / -", 3), ("- / 7 7", 7), ("0, 1 / -", 2), ("? / -", 1), ("0; / -", 2),
            ("- / - -", 7), ("- / - 0", 7), ("- / 0 -", 7), ("a / -", 1), ("0 1 2 3 4 5 6 7 7 / -", 17),
        ]:
            self.assert_wrong("bar", text, column)

    def test_drawn_texts(self):
        draw, found = random.Random(144), []
        for kind, texts in RIGHT.items():
            for _ in range(220):
                rows = [row for row, _ in rows_of(draw.choice(texts))]
                for _ in range(draw.choice([1, 1, 2])):
                    at = draw.randrange(len(rows) + 1)
                    more = [draw.choice(draw.choice([ALPHABET, ALPHABET, BROKEN]))]
                    rows = draw.choice([rows[:at] + more + rows[at:], rows[:at] + more + rows[at + 1:], rows[:at]])
                text = drawn_blanks(draw, " ".join(rows))
                found.append(self.assert_text(kind, text))
        self.assertGreater(min(found.count(None), len(found) - found.count(None)), 40)

    def test_each_beginning_of_a_text(self):
        for kind, texts in RIGHT.items():
            for text in texts:
                for end in range(len(text) + 1):
                    self.assert_text(kind, text[:end])

    def test_long_texts(self):
        with self.within():
            self.assert_refused(SyntaxProblem, parse_party, "1 " * 2500)
            self.assertEqual(self.assert_refused(SyntaxProblem, parse_party, "1" + " " * 4998 + "A").column, 5000)
            self.assertEqual(self.assert_refused(SyntaxProblem, parse_meeting, "a" * 5000).column, 1)
            self.assertEqual(self.assert_refused(SyntaxProblem, parse_bar, "," * 5000).column, 1)


class NoPartyTest(TextCase):
    def test_no_party_behind_a_right_text(self):
        for text in [
            "1; met 0 1", "1 1; apart 0 2", "1 1; met 0 1; apart 0 1", "? ? ?; met 0 1, 0 2; apart 0 2", "1 1; met 6 7",
            "0 0; met 0 1; apart 1 2",
        ]:
            self.assertTrue(is_text("party", [row for row, _ in rows_of(text)]))
            self.assert_refused(NoParty, parse_party, text)
        # A party without a meeting is one.
        self.assertEqual(parse_party("0 0; met 0 1"), ((0, 0), ((0, 1),), ()))
        self.assertEqual(parse_party("20"), ((20,), (), ()))

    def test_no_bar_behind_a_right_text(self):
        for text in ["0 / 0", "0 1 / 1 2", "7 / 7", "0 1 2 3 / 3", "1 / 0 1"]:
            self.assert_refused(NoBar, parse_bar, text)
        self.assertEqual(parse_bar("0 2 / 1 3"), ((0, 2), (1, 3)))

    def test_syntax_comes_ahead(self):
        self.assert_wrong("party", "1 1; met 0 2;", 14)
        self.assert_wrong("party", "1; met 0 1 A", 12)
        self.assert_wrong("bar", "0 / 0 0", 7)
        self.assert_wrong("bar", "0 / 0 A", 7)

    def test_format_of_no_party(self):
        for thing in [*odd_things(), ((2, 1), ((1, 0),), ())]:
            self.assert_refused(NoParty, format_party, thing)

    def test_all_meetings_of_four(self):
        for meeting in choices(pairs_of(4)):
            self.assertEqual(parse_meeting(format_meeting(meeting)), meeting)


if __name__ == "__main__":
    unittest.main()
