"""The console: each command with each answer, lines that are none, and histories of commands against a book."""

import random
import unittest

from metnumbers import errors
from metnumbers.bars import bars_it
from metnumbers.book import Book
from metnumbers.console import Console
from metnumbers.texts import format_party, parse_bar, parse_meeting, parse_party
from tests.cases import Case
from tests.plain import all_meetings, drawn_parties, is_state_paper, pieces_of
from tests.plain_book import PlainBook
from tests.plain_settling import all_excuses
from tests.plain_texts import meeting_text, party_text
from tests.test_book import NAMES, drawn_book
from tests.test_threes import threes_of

ONES = "1 1 1 1"
FOUR = ((1, 1, 1, 1), (), ())
OF_A_BOOK = [
    "met ann bob", "apart ann bob", "free ann bob", "numbers ann 1", "numbers ann 1 bob ?", "in eve", "out ann", "undo",
    "redo", "party", "names", "count", "state ann bob", "paper ann bob", "pairs", "news", "ask",
]
OF_A_PARTY = ["fit", "many", "one", "threes", "excuse"]
NO_COMMANDS = [
    "", " ", ":", " : ", " : 1 1", "\t", "\n", "hello", "met", "met ann", "met ann bob cy", "apart ann", "apart ann bob cy",
    "free", "free ann", "free ann bob cy", "open ann bob", "open", "open ann", "numbers", "numbers ann", "numbers ann 1 bob",
    "in", "in eve flo", "out", "out ann bob", "undo 1", "undo ann", "redo 2", "party ann", "names ann", "count 1", "state",
    "state ann", "state ann bob cy", "paper", "paper ann", "paper ann bob cy", "pairs ann", "news ann", "ask ann",
    "Met ann bob", "MET ann bob", "met  ann bob", "met ann  bob", " met ann bob", "met ann bob ", "\tundo", "undo\t", "undo ",
    " undo", "undo\n", "met\tann bob", "met ann\tbob", "party ", " party", "names  ", "do met ann bob", "fit", "fit 1 1",
    "many", "many 1", "one", "threes", "excuse", "fit:1 1", "fit: 1 1", "fit :1 1", "fit :", "open : 1 1", "open  : 1 1",
    "open ann  : 1", "open  ann : 1", " open ann : 1", "fit  : 1 1", " fit : 1 1", "fit ann : 1 1", "many 2 : 1 1", "one x : 1",
    "threes x : 1", "excuse x : 1", "party : 1 1", "met ann bob : 1 1", "undo : ", "names : x", "numbers ann 1 : 1", "ask : 1",
    "state ann bob : 1", "in eve : ?", "free : 1", "None : 1", "is ann : 1", "open ann", "numbers ann : 1",
    "numbers ann -1", "numbers ann 01", "numbers ann 00", "numbers ann +1", "numbers ann 1000001", "numbers ann 9999999999",
    "numbers ann 99999999999", "numbers ann x", "numbers ann ??", "numbers ann 1.0", "numbers ann None", "numbers ann 1 bob 02",
    "numbers ann ? bob -", "numbers 1 ann", "numbers ann  1", "numbers ann 1_0", "numbers ann 1 bob", "numbers ann 1 2",
    "numbers ann 1e3", "numbers ann 0x1", "numbers ann \t1",
]


def opened(line="open ann bob cy dee : 1 1 1 1"):
    console = Console()
    assert console.execute(line) == "ok"
    return console


class ConsoleCase(Case):
    def assert_answers(self, console, *rows):
        for line, right in rows:
            self.assertEqual(console.execute(line), right, line)

    def told(self, console):
        return [console.execute(line) for line in ("names", "party", "count", "news")]


class BookCommandsTest(ConsoleCase):
    def test_operations(self):
        self.assert_answers(
            opened(),
            ("names", "ann bob cy dee"), ("party", "1 1 1 1"), ("count", "0"), ("news", "-"), ("ask", "ann bob 1 2"),
            ("pairs", "ann bob, ann cy, ann dee, bob cy, bob dee, cy dee"), ("state bob ann", "open"),
            ("in eve", "ok"), ("met bob ann", "ok"), ("party", "1 1 1 1 ?; met 0 1"), ("count", "2"),
            ("pairs", "cy dee, cy eve, dee eve"), ("apart dee cy", "ok"), ("party", "1 1 1 1 ?; met 0 1; apart 2 3"),
            ("news", "cy dee apart, cy eve met, dee eve met"), ("pairs", "-"), ("ask", "none"), ("state cy eve", "met"),
            ("free ann bob", "ok"), ("free cy dee", "ok"), ("numbers ann ? cy 0 dee ?", "ok"), ("party", "? 1 0 ? ?"),
            ("state cy ann", "apart"), ("out bob", "ok"), ("names", "ann cy dee eve"), ("party", "? 0 ? ?"), ("count", "7"),
            ("undo", "ok"), ("undo", "ok"), ("party", "1 1 1 1 ?"), ("redo", "ok"), ("count", "6"), ("news", "ann cy apart, "
             "bob cy apart, cy dee apart, cy eve apart"),
        )

    def test_papers(self):
        console = opened("open ann bob cy dee : 3 1 ? 1; met 0 1; apart 1 2")
        self.assert_answers(console, ("paper ann bob", "met : known"), ("paper cy bob", "apart : known"))
        word, bar = console.execute("paper cy ann").split(" : ")
        self.assertEqual(word, "met")
        self.assertTrue(bars_it(((3, 1, None, 1), ((0, 1),), ((0, 2), (1, 2))), parse_bar(bar)))
        word, bar = console.execute("paper bob dee").split(" : ")
        self.assertEqual(word, "apart")
        self.assertTrue(bars_it(((3, 1, None, 1), ((0, 1), (1, 3)), ((1, 2),)), parse_bar(bar)))
        word, one, other = opened().execute("paper ann bob").split(" : ")
        self.assertEqual((word, one), ("open", "0 1, 2 3"))
        self.assertIn(other, ("0 2, 1 3", "0 3, 1 2"))
        self.assert_answers(opened("open ann bob : ? ?"), ("paper ann bob", "open : 0 1 : -"))

    def test_one_person(self):
        self.assert_answers(
            opened("open ann : ?"), ("pairs", "-"), ("news", "-"), ("ask", "none"), ("names", "ann"), ("party", "?"), ("in b2", "ok"),
            ("pairs", "ann b2"), ("out ann", "ok"), ("names", "b2"), ("count", "2"),
        )

    def test_open(self):
        console = opened()
        console.execute("met ann bob")
        for line, error in [
            ("open ann bob : 1 x", errors.SyntaxProblem), ("open ann bob : ", errors.SyntaxProblem),
            ("open ann bob : 1 1; met 0 2", errors.NoParty), ("open ann : 1 1", errors.NoName),
            ("open ann Bob : 1 1", errors.NoName), ("open ann ann : 1 1", errors.NoName), ("open ann a\tb : 1 1", errors.NoName),
            ("open ann bob cy : 1 1", errors.NoName), ("open ann bob : 1 0", errors.NoMeeting), ("open ann", errors.InvalidCommand),
            ("open ann ninechars : 1 1", errors.NoName), ("open : 1 1", errors.InvalidCommand),
            # The text is read first, then the book asks for the names, and then for a meeting.
            ("open Ann Bob : 1 ,", errors.SyntaxProblem), ("open Ann : 1 1; met 0 2", errors.NoParty), ("open Ann Bob : 1 0", errors.NoName),
        ]:
            self.assert_refused(error, console.execute, line)
            self.assertEqual(self.told(console)[:3], ["ann bob cy dee", "1 1 1 1; met 0 1", "1"])
        self.assert_answers(console, ("open zoe : 0", "ok"), ("names", "zoe"), ("count", "0"), ("open open : ?", "ok"), ("names", "open"))
        self.assert_refused(errors.NoMark, console.execute, "undo")
        eight = " ".join(NAMES)
        self.assert_answers(console, (f"open {eight} : ? ? ? ? ? ? ? ?; apart 0 7", "ok"), ("names", eight))
        self.assertEqual(self.assert_refused(errors.TooMany, console.execute, "in zoe").limit, 8)
        self.assertEqual(self.assert_refused(errors.TooMany, console.execute, "ask").limit, 6)

    def test_bars_and_columns(self):
        console = Console()
        error = self.assert_refused(errors.SyntaxProblem, console.execute, "open ann bob : 1  01")
        self.assertEqual((error.line, error.column), (1, 4))
        error = self.assert_refused(errors.SyntaxProblem, console.execute, "fit :  1 1 : 1")
        self.assertEqual((error.line, error.column), (1, 6))
        error = self.assert_refused(errors.SyntaxProblem, console.execute, "many : ")
        self.assertEqual((error.line, error.column), (1, 1))
        error = self.assert_refused(errors.NoMeeting, console.execute, "open ann bob : 1 0")
        self.assertTrue(bars_it(((1, 0), (), ()), error.bar))
        self.assert_refused(errors.NoName, console.execute, "names")

    def test_refused_by_the_book(self):
        console = opened()
        console.execute("met ann bob")
        for line, error in [
            ("met ann zoe", errors.NoName), ("met zoe zoe", errors.NoName), ("met ann ann", errors.Mismatch),
            ("met ann bob", errors.Mismatch), ("free cy dee", errors.Mismatch), ("apart cy dee", errors.NoMeeting),
            ("numbers zoe 1", errors.NoName), ("numbers ann 1 ann 1", errors.Mismatch), ("numbers ann 21", errors.NoParty),
            ("numbers ann 1000000", errors.NoParty), ("numbers ann 20", errors.NoMeeting), ("in ann", errors.Mismatch),
            ("in Eve", errors.NoName), ("in 2", errors.NoName), ("in eve\t", errors.NoName), ("in :", errors.NoName),
            ("out zoe", errors.NoName), ("out ann", errors.NoMeeting), ("redo", errors.NoMark), ("state ann zoe", errors.NoName),
            ("state ann ann", errors.Mismatch), ("paper zoe ann", errors.NoName), ("paper bob bob", errors.Mismatch),
            ("met ann b\tb", errors.NoName), ("state : :", errors.InvalidCommand), ("state a: :b", errors.NoName),
        ]:
            self.assert_refused(error, console.execute, line)
            self.assertEqual(self.told(console)[:3], ["ann bob cy dee", "1 1 1 1; met 0 1", "1"])
        console.execute("undo")
        self.assert_refused(errors.NoMark, console.execute, "undo")
        self.assert_refused(errors.NoName, console.execute, "met ann zoe")
        self.assert_answers(console, ("redo", "ok"), ("count", "1"))


class PartyCommandsTest(ConsoleCase):
    def test_by_hand(self):
        for console in [Console(), opened()]:
            self.assert_answers(
                console,
                ("fit : 1 1 2", "0 2, 1 2"), ("fit : 0 0", "-"), ("fit : ?", "-"), ("many : 1 1 1 1", "3"), ("many : 1", "0"),
                ("many : ? ? ?; met 0 1", "4"), ("one : 2 2 2", "yes"), ("one : 1 1 1 1", "no"), ("one : 0", "yes"),
                ("threes : 2 2 2 1 1", "0 1"), ("threes : 2 2 2", "1 1"), ("threes : ? ? ? ? ? ?", "0 20"), ("excuse : 3 1 1 0", "0"),
                ("excuse : 9 9 9", "0 1 2"), ("excuse : 1 1", "-"), ("excuse : ?", "-"), ("fit : \t1 1", "0 1"),
            )

    def test_drawn_parties(self):
        console = Console()
        for party in drawn_parties(151, (1, 2, 3, 4, 5), 30):
            text, right = party_text(party), all_meetings(party)
            self.assertEqual(console.execute(f"many : {text}"), str(len(right)))
            excuse = all_excuses(party)[0]
            self.assertEqual(console.execute(f"excuse : {text}"), " ".join(map(str, excuse)) or "-")
            answer = console.execute(f"fit : {text}")
            if not right:
                word, bar = answer.split(" : ")
                self.assertEqual(word, "none")
                self.assertTrue(bars_it(party, parse_bar(bar)))
                for command in ("one", "threes"):
                    error = self.assert_refused(errors.NoMeeting, console.execute, f"{command} : {text}")
                    self.assertTrue(bars_it(party, error.bar))
                continue
            self.assertEqual(answer, meeting_text(right[0]))
            joined = all(len(pieces_of(party, meeting)) == 1 for meeting in right)
            self.assertEqual(console.execute(f"one : {text}"), "yes" if joined else "no")
            numbers = [len(threes_of(party, meeting)) for meeting in right]
            self.assertEqual(console.execute(f"threes : {text}"), f"{min(numbers)} {max(numbers)}")

    def test_great_parties(self):
        console = Console()
        for text, right in [("3 3 3 3 3 3 3 3", "no"), ("7 1 1 1 1 1 1 1", "yes"), ("? ? ? ? ? ? ? ?", "no")]:
            with self.within():
                self.assertEqual(console.execute(f"one : {text}"), right)
                self.assertEqual(console.execute(f"excuse : {text}"), "-")
                parse_meeting(console.execute(f"fit : {text}"))
            for command in ("many", "threes"):
                self.assertEqual(self.assert_refused(errors.TooMany, console.execute, f"{command} : {text}").limit, 6)
        self.assertEqual(console.execute("excuse : 20 20 20 20 20 20 20 20"), "0 1 2 3 4 5 6 7")

    def test_refused(self):
        for console in [Console(), opened()]:
            for command in OF_A_PARTY:
                for text, error in [
                    ("", errors.SyntaxProblem), ("x", errors.SyntaxProblem), ("1 : 1", errors.SyntaxProblem),
                    ("1; met 0 1", errors.NoParty), ("1 1; met 0 1; apart 0 1", errors.NoParty), ("1\n", errors.SyntaxProblem),
                    # Too many persons, and a text that is wrong: it is read first.
                    ("1 1 1 1 1 1 1 ;", errors.SyntaxProblem),
                ]:
                    self.assert_refused(error, console.execute, f"{command} : {text}")


class NoCommandTest(ConsoleCase):
    def test_invalid_commands(self):
        for line in NO_COMMANDS:
            with self.subTest(line=line):
                self.assert_refused(errors.InvalidCommand, Console().execute, line)
                console = opened()
                console.execute("met ann bob")
                console.execute("undo")
                self.assert_refused(errors.InvalidCommand, console.execute, line)
                self.assert_answers(console, ("count", "0"), ("party", ONES), ("redo", "ok"))

    def test_no_book(self):
        console = Console()
        for line in [*OF_A_BOOK, "met ann ann", "in 2", "numbers ann 1000000", "state zoe zoe", "met a\tb c", "in :"]:
            self.assert_refused(errors.NoName, console.execute, line)
        for line in OF_A_BOOK:
            self.assert_refused(errors.InvalidCommand, console.execute, line + " ")
            self.assert_refused(errors.InvalidCommand, console.execute, line + " : 1 1")
            self.assert_refused(errors.InvalidCommand, console.execute, line.replace(" ", "  ") if " " in line else " " + line)
        self.assertEqual(console.execute("fit : 1 1"), "0 1")
        self.assert_refused(errors.NoName, console.execute, "party")

    def test_numbers(self):
        console = opened("open ann bob cy dee : ? ? ? ?")
        self.assert_answers(
            console, ("numbers ann 0 bob ?", "ok"), ("party", "0 ? ? ?"), ("numbers bob 2 cy 1 dee 1", "ok"), ("party", "0 2 1 1"),
        )
        for word, error in [("21", errors.NoParty), ("1000000", errors.NoParty), ("999999", errors.NoParty), ("20", errors.NoMeeting)]:
            self.assert_refused(error, console.execute, f"numbers ann {word}")
        # The console asks for right N ahead of the book, whatever the names are.
        self.assert_refused(errors.InvalidCommand, console.execute, "numbers zoe 1000001")
        self.assert_refused(errors.NoName, console.execute, "numbers zoe 1000000")

    def test_two_consoles_share_nothing(self):
        one, other = opened(), Console()
        self.assert_refused(errors.NoName, other.execute, "party")
        other.execute("open zoe : ?")
        self.assert_answers(one, ("names", "ann bob cy dee"), ("in zoe", "ok"))
        self.assert_answers(other, ("names", "zoe"), ("count", "0"))


class HistoryTest(ConsoleCase):
    def test_against_a_book(self):
        draw, ended = random.Random(152), []
        for _ in range(40):
            book, plain = drawn_book(draw)
            console = Console()
            line = f"open {' '.join(book.names)} : {format_party(book.now)}"
            self.assertEqual(console.execute(line), "ok")
            for _ in range(10):
                ended.append(self.step(draw, console, book))
                self.assert_alike(console, book)
        self.assertGreater(min(ended.count("ok"), len(ended) - ended.count("ok")), 60)

    def step(self, draw, console, book):
        """Do a drawn command in both; return its answer or the class of its error."""
        line, operation = self.drawn_command(draw, book)
        try:
            if operation in ("undo", "redo"):
                book.undo() if operation == "undo" else book.redo()
            else:
                book.do(operation)
        except errors.MeetError as error:
            self.assert_refused(type(error), console.execute, line)
            return type(error)
        self.assertEqual(console.execute(line), "ok", line)
        return "ok"

    def drawn_command(self, draw, book):
        """Return a line, and the operation that it does."""
        word = draw.choice(["met", "apart", "free", "numbers", "in", "out", "undo", "redo"])
        pool = [*book.names, *book.names, draw.choice(NAMES[:5])]
        if word in ("undo", "redo"):
            return word, word
        if word in ("in", "out"):
            name = draw.choice(NAMES[:5])
            return f"{word} {name}", (word, name)
        if word == "numbers":
            rows = tuple((draw.choice(pool), draw.choice([None, None, 0, 1, 2, 30])) for _ in range(draw.choice([1, 2])))
            told = " ".join(f"{name} {'?' if number is None else number}" for name, number in rows)
            return f"numbers {told}", ("numbers", rows)
        one, other = draw.choice(pool), draw.choice(pool)
        return f"{word} {one} {other}", ("open" if word == "free" else word, one, other)

    def assert_alike(self, console, book):
        self.assert_answers(
            console, ("names", " ".join(book.names)), ("party", party_text(book.now)), ("count", str(len(book.notes()))),
            ("pairs", ", ".join(map(" ".join, book.open_pairs())) or "-"),
            ("news", ", ".join(map(" ".join, book.news())) or "-"),
            ("ask", " ".join(map(str, book.ask() or ["none"]))),
        )
        plain = PlainBook(book.names, book.now)
        for (one, other), told in plain.states().items():
            self.assertEqual(console.execute(f"state {other} {one}"), told)
            self.assert_paper(book, book.names.index(one), book.names.index(other), console.execute(f"paper {other} {one}"))

    def assert_paper(self, book, one, other, answer):
        word, *texts = answer.split(" : ")
        if texts == ["known"]:
            paper = (word, None)
        else:
            paper = (word, *map(parse_meeting if word == "open" else parse_bar, texts))
        self.assertTrue(is_state_paper(book.now, (one, other), paper), answer)

    def test_parties_there_and_back(self):
        for party in drawn_parties(153, (1, 2, 3, 4), 20):
            names = " ".join(NAMES[:len(party[0])])
            if all_meetings(party):
                console = opened(f"open {names} : {format_party(party)}")
                self.assertEqual(parse_party(console.execute("party")), party)
                self.assertTrue(console.book == Book(NAMES[:len(party[0])], party))


if __name__ == "__main__":
    unittest.main()
