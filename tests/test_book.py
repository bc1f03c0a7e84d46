"""Books: drawn histories against a book by the words of point 12, each refusal, undoing and doing again."""

import copy
import random
import unittest

from metnumbers import errors
from metnumbers.bars import bars_it
from metnumbers.book import Book
from metnumbers.meetings import is_meeting, least_meeting
from metnumbers.settle import best_question
from metnumbers.sure import shows_state, states
from tests.cases import Case
from tests.odd_things import odd_things
from tests.plain import all_meetings, bars, drawn_parties, is_state_paper, pairs_of
from tests.plain_book import PlainBook

NAMES = ("ann", "bob", "cy", "dee", "eve", "flo", "gus", "hal")
FOUR = ((1, 1, 1, 1), (), ())
BARRED = ((1, 1, 1), ((0, 1),), ((0, 2),))
NO_PARTY = ((2, 1), ((1, 0),), ())
WRONG_NAMES = ["", "Ann", "2ann", "ninechars", "a b", "ann ", "\n", "-"]
NO_OPERATIONS = [
    (), ("met",), ("met", "ann"), ("met", "ann", "bob", "cy"), ("apart", "ann"), ("open", "ann", "bob", None),
    ("in",), ("in", "zoe", "yan"), ("out",), ("out", "ann", "bob"), ("numbers",), ("numbers", ()), ("numbers", []),
    ("numbers", [("ann", 1)]), ("numbers", (("ann",),)), ("numbers", (("ann", 1, 2),)), ("numbers", (["ann", 1],)),
    ("numbers", (("ann", 1), None)), ("numbers", (("ann", 1),), (("bob", 1),)), ("numbers", "ann", 1),
    ("numbers", {"ann": 1}), ("free", "ann", "bob"), ("Met", "ann", "bob"), ("undo",), ("", "ann"), (None, "ann", "bob"),
    (["met"], "ann", "bob"), (("met",), "ann", "bob"), ["met", "ann", "bob"], "met", {"met": ("ann", "bob")},
    (True, "ann"), ("met ann bob",),
]


def drawn_book(draw, sizes=(1, 2, 3, 3, 4, 4)):
    """Return a book and the same one by the words of the document."""
    while True:
        party = draw.choice(drawn_parties(draw.randrange(10**6), [draw.choice(sizes)], 1))
        if all_meetings(party):
            names = tuple(draw.sample(NAMES[:6], len(party[0])))
            return Book(names, party), PlainBook(names, party)


def drawn_name(draw, plain):
    pool = draw.choice([plain.names] * 6 + [NAMES, WRONG_NAMES + [None, 0, True, (), [], {}, ("ann",)]])
    return draw.choice(pool)


def drawn_number(draw):
    return draw.choice([None, None, 0, 1, 1, 2, 2, 3, 4, 20, 21, -1, True, "1", (), 10**12])


def drawn_operation(draw, plain):
    """Return an operation, often a right one; sometimes one that is none at all."""
    word = draw.choice(["met", "apart", "open", "met", "apart", "open", "numbers", "numbers", "in", "out", "none"])
    if word == "none":
        return draw.choice(NO_OPERATIONS)
    if word == "open" and draw.random() < 0.8 and plain.met + plain.apart:
        return word, *draw.sample(sorted(draw.choice(plain.met + plain.apart)), 2)
    if word in ("met", "apart", "open"):
        if len(plain.names) > 1 and draw.random() < 0.7:
            return word, *draw.sample(plain.names, 2)
        return word, drawn_name(draw, plain), drawn_name(draw, plain)
    if word == "numbers":
        if draw.random() < 0.6:
            meeting = draw.choice(all_meetings(((None,) * len(plain.names), (), ())))
            count = [sum(k in pair for pair in meeting) for k in range(len(plain.names))]
            chosen = draw.sample(range(len(plain.names)), draw.randint(1, len(plain.names)))
            return word, tuple((plain.names[k], draw.choice([count[k], count[k], None])) for k in chosen)
        rows = tuple((drawn_name(draw, plain), drawn_number(draw)) for _ in range(draw.choice([1, 1, 2, 3])))
        return word, rows
    if word == "in":
        # More than five persons would be told too slowly by the words of the document.
        new = draw.choice(NAMES[:6]) if len(plain.names) < 5 else draw.choice(plain.names)
        return word, draw.choice([new, new, drawn_name(draw, plain) if len(plain.names) < 5 else "Bob"])
    return word, draw.choice([drawn_name(draw, plain), draw.choice(plain.names)])


class BookCase(Case):
    def assert_alike(self, book, plain):
        """Assert that a book tells all that the other one tells."""
        names = tuple(plain.names)
        self.assertEqual((book.names, book.now), (names, plain.party()))
        self.assertEqual(book.notes(), [operation for operation, _ in plain.done])
        self.assertEqual(len(book), len(names))
        self.assertTrue(book == Book(names, plain.party()))
        for name in NAMES:
            self.assertIs(name in book, name in plain.names)
        self.assertEqual([book[name] for name in names], list(plain.party()[0]))
        self.assertEqual(book.open_pairs(), plain.open_pairs())
        self.assertEqual(book.news(), plain.news())
        for (one, other), told in plain.states().items():
            self.assertEqual((book.state(one, other), book.state(other, one)), (told, told))
        self.assertEqual(book.ask(), plain.ask())

    def assert_papers(self, book):
        for a, b in pairs_of(len(book)):
            paper = book.paper(book.names[b], book.names[a])
            self.assertTrue(is_state_paper(book.now, (a, b), paper))

    def assert_do(self, book, plain, operation):
        """Do an operation in both books; return the class of the error that refuses it."""
        kept = copy.deepcopy(operation)
        error = plain.do(operation)
        if error is None:
            self.assertIsNone(book.do(operation))
        else:
            self.assert_error(book, plain, operation, self.assert_refused(error, book.do, operation))
        self.assertEqual(operation, kept)
        return error

    def assert_error(self, book, plain, operation, error):
        """Assert that an error of an operation has right fields."""
        if isinstance(error, errors.TooMany):
            self.assertEqual(error.limit, 8)
        if isinstance(error, errors.NoMeeting):
            kept = plain.all()
            plain.change(operation)
            self.assertTrue(bars(plain.party(), error.bar))
            plain.set_all(kept)

    def told(self, book):
        """Return all that a book tells, and what could be done again."""
        found = [book.names, book.now, book.notes(), book.news(), book.open_pairs()]
        again = 0
        while True:
            try:
                book.redo()
            except errors.NoMark:
                break
            again += 1
            found.append((book.names, book.now, book.notes()))
        for _ in range(again):
            book.undo()
        return found


class HistoryTest(BookCase):
    def test_drawn_histories(self):
        draw, seen = random.Random(131), []
        for _ in range(220):
            book, plain = drawn_book(draw)
            for step in range(12):
                self.step(draw, book, plain, seen)
                self.assert_alike(book, plain)
            self.assert_papers(book)
        for error in (None, errors.Mismatch, errors.NoName, errors.NoMeeting, errors.NoParty, "undo", "redo"):
            self.assertGreater(seen.count(error), 20, error)

    def step(self, draw, book, plain, seen):
        kind = draw.choice(["do", "do", "do", "undo", "redo"])
        if kind == "do":
            seen.append(self.assert_do(book, plain, drawn_operation(draw, plain)))
            return
        marks = plain.done if kind == "undo" else plain.undone
        function = book.undo if kind == "undo" else book.redo
        if not marks:
            self.assert_refused(errors.NoMark, function)
            return
        self.assertIsNone(function())
        plain.undo() if kind == "undo" else plain.redo()
        seen.append(kind)

    def test_refused_ones_change_nothing(self):
        draw, seen = random.Random(132), 0
        for _ in range(30):
            book, plain = drawn_book(draw)
            for _ in range(5):
                book_error = plain.do(drawn := drawn_operation(draw, plain))
                if book_error is None:
                    book.do(drawn)
            if book.notes():
                book.undo()
                plain.undo()
            for _ in range(6):
                ahead, operation = self.told(book), drawn_operation(draw, plain)
                other = copy.deepcopy(plain)
                error = other.do(operation)
                if error is not None:
                    self.assert_refused(error, book.do, operation)
                    self.assertEqual(self.told(book), ahead)
                    seen += 1
        self.assertGreater(seen, 50)

    def test_no_operation_of_any_form(self):
        book = Book(NAMES[:4], FOUR)
        book.do(("met", "ann", "bob"))
        book.undo()
        ahead = self.told(book)
        for thing in [*odd_things(), *NO_OPERATIONS]:
            self.assert_refused(errors.Mismatch, book.do, thing)
            self.assert_refused(errors.Mismatch, book.all_done, [thing])
        for thing in odd_things():
            if thing == "ann":
                continue
            for operation in [("met", thing, "bob"), ("apart", "ann", thing), ("out", thing), ("open", thing, thing)]:
                self.assert_refused(errors.NoName, book.do, operation)
            self.assert_refused(errors.NoName, book.do, ("numbers", ((thing, 1),)))
            if thing != "a":
                self.assert_refused(errors.NoName, book.do, ("in", thing))
        self.assertEqual(self.told(book), ahead)

    def test_numbers_of_any_form(self):
        for thing in odd_things():
            book = Book(NAMES[:4], ((None,) * 4, (), ()))
            if thing is None:
                book.do(("numbers", (("ann", thing),)))
            elif thing == 8:
                self.assert_refused(errors.NoMeeting, book.do, ("numbers", (("ann", thing),)))
            else:
                self.assert_refused(errors.NoParty, book.do, ("numbers", (("ann", thing),)))


class OperationTest(BookCase):
    def test_each_sort(self):
        book = Book(("ann", "bob", "cy"), ((None, 1, None), (), ()))
        self.assertIsNone(book.do(("apart", "cy", "ann")))
        self.assertEqual(book.now, ((None, 1, None), (), ((0, 2),)))
        book.do(("met", "bob", "ann"))
        self.assertEqual(book.now, ((None, 1, None), ((0, 1),), ((0, 2),)))
        book.do(("open", "ann", "bob"))
        book.do(("open", "ann", "cy"))
        self.assertEqual(book.now, ((None, 1, None), (), ()))
        book.do(("numbers", (("cy", 1), ("ann", 0), ("bob", None))))
        self.assertEqual(book.now, ((0, None, 1), (), ()))
        book.do(("in", "dee"))
        self.assertEqual((book.names, book.now), (("ann", "bob", "cy", "dee"), ((0, None, 1, None), (), ())))
        book.do(("met", "dee", "bob"))
        book.do(("apart", "bob", "cy"))
        book.do(("out", "ann"))
        self.assertEqual((book.names, book.now), (("bob", "cy", "dee"), ((None, 1, None), ((0, 2),), ((0, 1),))))
        self.assertEqual(len(book.notes()), 9)
        self.assertEqual(book.notes()[3:5], [("open", "ann", "cy"), ("numbers", (("cy", 1), ("ann", 0), ("bob", None)))])

    def test_out_takes_all_facts_along(self):
        party = ((None,) * 4, ((0, 1), (1, 2), (2, 3)), ((0, 2), (1, 3)))
        rights = {
            "ann": ((None,) * 3, ((0, 1), (1, 2)), ((0, 2),)),
            "bob": ((None,) * 3, ((1, 2),), ((0, 1),)),
            "cy": ((None,) * 3, ((0, 1),), ((1, 2),)),
            "dee": ((None,) * 3, ((0, 1), (1, 2)), ((0, 2),)),
        }
        for name, right in rights.items():
            book = Book(NAMES[:4], party)
            book.do(("out", name))
            self.assertEqual(book.now, right)
            self.assertEqual(book.names, tuple(other for other in NAMES[:4] if other != name))
            book.undo()
            self.assertEqual((book.names, book.now), (NAMES[:4], party))

    def test_out_leaves_numbers(self):
        book = Book(("ann", "bob"), ((1, 1), (), ()))
        error = self.assert_refused(errors.NoMeeting, book.do, ("out", "ann"))
        self.assertTrue(bars(((1,), (), ()), error.bar))
        self.assertEqual((book.names, book.now, book.notes()), (("ann", "bob"), ((1, 1), (), ()), []))

    def test_pairs(self):
        book = Book(NAMES[:4], ((1, 1, None, None), ((2, 3),), ((0, 2),)))
        for word in ("met", "apart", "open"):
            for thing in [None, "zoe", "Ann", 0, (), ["ann"]]:
                self.assert_refused(errors.NoName, book.do, (word, thing, "bob"))
                self.assert_refused(errors.NoName, book.do, (word, "bob", thing))
                self.assert_refused(errors.NoName, book.do, (word, thing, thing))
            self.assert_refused(errors.Mismatch, book.do, (word, "ann", "ann"))
        for word, one, other in [
            ("met", "cy", "dee"), ("met", "dee", "cy"), ("apart", "cy", "dee"), ("met", "ann", "cy"), ("apart", "cy", "ann"),
            ("open", "ann", "bob"), ("open", "dee", "ann"),
        ]:
            self.assert_refused(errors.Mismatch, book.do, (word, one, other))
        self.assertEqual(book.notes(), [])
        # A pair that is surely met can't be put into apart, but into met.
        star = Book(NAMES[:4], ((3, 1, None, 1), (), ()))
        error = self.assert_refused(errors.NoMeeting, star.do, ("apart", "ann", "cy"))
        self.assertTrue(bars(((3, 1, None, 1), (), ((0, 2),)), error.bar))
        star.do(("met", "ann", "cy"))

    def test_numbers(self):
        book = Book(NAMES[:4], FOUR)
        self.assert_refused(errors.NoName, book.do, ("numbers", (("ann", 1), ("zoe", 1))))
        self.assert_refused(errors.Mismatch, book.do, ("numbers", (("ann", 1), ("bob", 1), ("ann", 1))))
        for number in (21, -1, True, False, "1", (), 10**12):
            self.assert_refused(errors.NoParty, book.do, ("numbers", (("ann", 1), ("bob", number))))
        for number in (0, 2, 4, 20):
            error = self.assert_refused(errors.NoMeeting, book.do, ("numbers", (("cy", number),)))
            self.assertTrue(bars(((1, 1, number, 1), (), ()), error.bar))
        book.do(("numbers", (("cy", 1),)))
        self.assertEqual((book.now, len(book.notes())), (FOUR, 1))

    def test_first_error(self):
        book = Book(NAMES[:2], ((1, 1), ((0, 1),), ()))
        self.assert_refused(errors.NoName, book.do, ("met", "zoe", "zoe"))
        self.assert_refused(errors.NoName, book.do, ("numbers", (("ann", 30), ("ann", 30), ("zoe", 1))))
        self.assert_refused(errors.Mismatch, book.do, ("numbers", (("ann", 30), ("ann", 30))))
        self.assert_refused(errors.NoParty, book.do, ("numbers", (("ann", 30), ("bob", 5))))
        self.assert_refused(errors.Mismatch, book.do, ("numbers", (("zoe", 30), None)))
        self.assert_refused(errors.Mismatch, book.do, ("met", "ann", "bob"))
        alone = Book(("ann",), ((0,), (), ()))
        self.assert_refused(errors.NoName, alone.do, ("out", "bob"))
        full = Book(NAMES, ((None,) * 8, (), ()))
        self.assert_refused(errors.NoName, full.do, ("in", "Zoe"))
        self.assert_refused(errors.Mismatch, full.do, ("in", "hal"))
        self.assertEqual(self.assert_refused(errors.TooMany, full.do, ("in", "zoe")).limit, 8)

    def test_eighth_and_ninth_person(self):
        book = Book(NAMES[:7], ((2,) * 7, (), ()))
        book.do(("in", "hal"))
        self.assertEqual(book.now, ((2,) * 7 + (None,), (), ()))
        self.assertEqual(self.assert_refused(errors.TooMany, book.do, ("in", "zoe")).limit, 8)
        self.assert_refused(errors.Mismatch, book.do, ("in", "ann"))
        book.do(("out", "hal"))
        book.do(("in", "zoe"))
        self.assertEqual(book.names[-1], "zoe")

    def test_only_person(self):
        book = Book(("ann",), ((0,), (), ()))
        self.assert_refused(errors.Mismatch, book.do, ("out", "ann"))
        self.assertEqual((book.open_pairs(), book.ask(), book.news(), len(book), book["ann"]), ([], None, [], 1, 0))
        book.do(("in", "bob"))
        book.do(("out", "ann"))
        self.assertEqual((book.names, book.now), (("bob",), ((None,), (), ())))
        self.assert_refused(errors.Mismatch, book.do, ("out", "bob"))


class NewsTest(BookCase):
    def test_behind_in_out_numbers(self):
        book = Book(("ann", "bob", "cy"), ((None, None, None), (), ()))
        self.assertEqual(book.news(), [])
        book.do(("numbers", (("ann", 0),)))
        self.assertEqual(book.news(), [("ann", "bob", "apart"), ("ann", "cy", "apart")])
        book.do(("numbers", (("ann", None),)))
        self.assertEqual(book.news(), [])
        book.do(("in", "dee"))
        self.assertEqual(book.news(), [])
        # The pairs with a new person were not there, so they were not open.
        settled = Book(("ann", "bob"), ((0, 0), (), ()))
        settled.do(("in", "cy"))
        self.assertEqual((settled.state("ann", "cy"), settled.news()), ("apart", []))
        # The pairs with a person who is out are none of the book's any more.
        four = Book(("ann", "bob", "cy", "dee"), ((1, 1, None, None), (), ((2, 3),)))
        self.assertEqual(len(four.open_pairs()), 5)
        four.do(("out", "dee"))
        four.do(("out", "cy"))
        self.assertEqual(four.news(), [("ann", "bob", "met")])

    def test_behind_undo_and_redo(self):
        book = Book(NAMES[:4], FOUR)
        book.do(("in", "eve"))
        book.do(("met", "ann", "bob"))
        first = book.news()
        book.do(("apart", "cy", "dee"))
        second = book.news()
        self.assertEqual(second, [("cy", "dee", "apart"), ("cy", "eve", "met"), ("dee", "eve", "met")])
        book.undo()
        self.assertEqual(book.news(), first)
        book.undo()
        self.assertEqual(book.news(), [])
        book.redo()
        self.assertEqual(book.news(), first)
        book.redo()
        self.assertEqual(book.news(), second)
        for _ in range(3):
            book.undo()
        self.assertEqual(book.news(), [])


class UndoTest(BookCase):
    def test_nothing_to_do(self):
        book = Book(NAMES[:4], FOUR)
        self.assert_refused(errors.NoMark, book.undo)
        self.assert_refused(errors.NoMark, book.redo)
        book.do(("met", "ann", "bob"))
        self.assert_refused(errors.NoMark, book.redo)
        self.assertIsNone(book.undo())
        self.assert_refused(errors.NoMark, book.undo)
        self.assertIsNone(book.redo())
        self.assert_refused(errors.NoMark, book.redo)

    def test_new_operation_behind_an_undo(self):
        book = Book(NAMES[:4], FOUR)
        book.all_done([("met", "ann", "bob"), ("in", "eve")])
        book.undo()
        book.undo()
        self.assert_refused(errors.NoMeeting, book.do, ("numbers", (("ann", 0),)))
        book.redo()
        book.do(("numbers", (("dee", None), ("cy", None))))
        self.assert_refused(errors.NoMark, book.redo)
        self.assertEqual(book.notes(), [("met", "ann", "bob"), ("numbers", (("dee", None), ("cy", None)))])

    def test_thirty_and_more_operations(self):
        draw = random.Random(133)
        names = NAMES[:7]
        book = Book(names, ((None,) * 7, (), ()))
        seen = [(book.names, book.now)]
        while len(seen) < 41:
            try:
                book.do(self.operation_of_eight(draw, book))
            except errors.MeetError:
                self.assertEqual((book.names, book.now), seen[-1])
                continue
            seen.append((book.names, book.now))
        notes = book.notes()
        self.assertEqual(len(notes), 40)
        with self.within(20):
            for _ in range(2):
                for k in range(39, -1, -1):
                    book.undo()
                    self.assertEqual((book.names, book.now, book.notes()), (*seen[k], notes[:k]))
                self.assert_refused(errors.NoMark, book.undo)
                for k in range(1, 41):
                    book.redo()
                    self.assertEqual((book.names, book.now, book.notes()), (*seen[k], notes[:k]))
                self.assert_refused(errors.NoMark, book.redo)
        again = Book.of(names, ((None,) * 7, (), ()), notes)
        self.assertTrue(again == book)
        self.assertEqual((again.notes(), again.news()), (notes, book.news()))

    def operation_of_eight(self, draw, book):
        pool = list(book.names)
        kind = draw.choice(["met", "apart", "open", "numbers", "in", "out"])
        if kind in ("met", "apart", "open"):
            return kind, *draw.sample(pool, 2)
        if kind == "numbers":
            return kind, tuple((name, draw.choice([None, 2, 3])) for name in draw.sample(pool, 2))
        return kind, draw.choice(NAMES)


class AllDoneTest(BookCase):
    def test_drawn_lists(self):
        draw, refused, done = random.Random(134), 0, 0
        for _ in range(110):
            book, plain = drawn_book(draw, (2, 3, 4))
            for _ in range(3):
                operations = [drawn_operation(draw, plain) for _ in range(draw.choice([0, 1, 2, 3]))]
                if draw.random() < 0.4 and plain.done:
                    plain.undo()
                    book.undo()
                ahead, kept = self.told(book), copy.deepcopy(operations)
                error = plain.all_done(operations)
                if error is None:
                    self.assertIsNone(book.all_done(operations))
                    done += len(operations) > 0
                else:
                    self.assert_refused(error, book.all_done, operations)
                    self.assertEqual(self.told(book), ahead)
                    refused += 1
                self.assertEqual(operations, kept)
                self.assert_alike(book, plain)
        self.assertGreater(min(refused, done), 25)

    def test_whole_or_not_at_all(self):
        book = Book(NAMES[:4], FOUR)
        book.all_done([("met", "ann", "bob"), ("in", "eve")])
        book.undo()
        ahead = self.told(book)
        self.assertEqual(len(ahead), 6)
        right = [("in", "flo"), ("apart", "ann", "flo")]
        for wrong, error in [
            (("met", "ann", "zoe"), errors.NoName), (("met", "ann", "bob"), errors.Mismatch), (None, errors.Mismatch),
            (("numbers", (("ann", 99),)), errors.NoParty), (("apart", "cy", "dee"), None),
            (("numbers", (("ann", 9),)), errors.NoMeeting), (("in", "Zoe"), errors.NoName),
        ]:
            operations = right + [wrong] + right
            if error is None:
                # It is right here, with a new person; the second time flo is there already.
                error = errors.Mismatch
            self.assert_refused(error, book.all_done, operations)
            self.assertEqual(self.told(book), ahead)
        too_many = [("in", name) for name in ("one", "two", "three", "four", "five")]
        self.assertEqual(self.assert_refused(errors.TooMany, book.all_done, too_many).limit, 8)
        self.assertEqual(self.told(book), ahead)
        book.redo()
        book.all_done(right)
        self.assertEqual(len(book.notes()), 4)

    def test_first_refused(self):
        book = Book(NAMES[:4], FOUR)
        self.assert_refused(errors.NoName, book.all_done, [("in", "2"), None])
        self.assert_refused(errors.Mismatch, book.all_done, [None, ("in", "2")])
        self.assert_refused(errors.NoMeeting, book.all_done, [("numbers", (("ann", 0),)), None])

    def test_empty_list(self):
        book = Book(NAMES[:4], FOUR)
        book.do(("met", "ann", "bob"))
        book.undo()
        self.assertIsNone(book.all_done([]))
        self.assertEqual(book.notes(), [])
        book.redo()
        book.all_done([])
        self.assertEqual(book.notes(), [("met", "ann", "bob")])

    def test_no_list(self):
        book = Book(NAMES[:4], FOUR)
        for thing in odd_things():
            if not isinstance(thing, list):
                self.assert_refused(errors.Mismatch, book.all_done, thing)
        self.assert_refused(errors.Mismatch, book.all_done, (("in", "eve"),))
        self.assertEqual((book.names, book.notes()), (NAMES[:4], []))

    def test_what_was_passed_may_change(self):
        operations = [("in", "eve"), ("in", "flo")]
        book = Book(NAMES[:4], FOUR)
        book.all_done(operations)
        operations.clear()
        self.assertEqual(book.notes(), [("in", "eve"), ("in", "flo")])
        book.notes().clear()
        book.open_pairs().append(("ann", "ann"))
        book.news().append(1)
        self.assertEqual((len(book.notes()), len(book.open_pairs()), book.news()), (2, 15, []))
        self.assertIsNot(book.notes(), book.notes())
        self.assertIsNot(book.open_pairs(), book.open_pairs())


class MadeTest(BookCase):
    def test_of(self):
        book = Book.of(NAMES[:4], FOUR, [("met", "ann", "bob"), ("in", "eve")])
        self.assertEqual((book.names, len(book.notes())), (NAMES[:5], 2))
        self.assertEqual(Book.of(NAMES[:4], FOUR, []).notes(), [])
        for thing in [None, (), (("in", "eve"),), {}, "in"]:
            self.assert_refused(errors.Mismatch, Book.of, NAMES[:4], FOUR, thing)
        self.assert_refused(errors.NoName, Book.of, NAMES[:4], FOUR, [("in", "eve"), ("out", "zoe")])
        self.assert_refused(errors.NoParty, Book.of, None, NO_PARTY, None)
        self.assert_refused(errors.NoName, Book.of, None, FOUR, None)
        self.assert_refused(errors.NoMeeting, Book.of, NAMES[:3], BARRED, None)

    def test_no_party(self):
        for thing in [*odd_things(), NO_PARTY, list(FOUR), [FOUR]]:
            self.assert_refused(errors.NoParty, Book, NAMES[:4], thing)
        self.assert_refused(errors.NoParty, Book, None, NO_PARTY)

    def test_no_names(self):
        wrong = [
            NAMES[:3], NAMES[:5], list(NAMES[:4]), ("ann", "bob", "cy", "ann"), ("ann", "bob", "cy", "Dee"), (),
            ("ann", "bob", "cy", ""), ("ann", "bob", "cy", None), ("ann", "bob", "cy", "ninechars"), "abcd",
            {name: 1 for name in NAMES[:4]}, ("ann", "bob", "cy", ["dee"]), ("ann", "bob", "cy", ("dee",)), (1, 2, 3, 4),
        ]
        for thing in [*wrong, *odd_things()]:
            self.assert_refused(errors.NoName, Book, thing, FOUR)
        self.assert_refused(errors.NoName, Book, NAMES[:2], BARRED)

    def test_no_meeting(self):
        for party in [BARRED, ((1,), (), ()), ((3, 3, 1, 1), (), ()), ((3,) * 7 + (4,), (), ())]:
            error = self.assert_refused(errors.NoMeeting, Book, NAMES[:len(party[0])], party)
            self.assertTrue(bars_it(party, error.bar))

    def test_equality(self):
        book, other = Book(NAMES[:4], FOUR), Book(NAMES[:4], FOUR)
        self.assertTrue(book == other)
        self.assertFalse(book != other)
        book.do(("met", "ann", "bob"))
        self.assertFalse(book == other)
        self.assertTrue(book == Book(NAMES[:4], ((1, 1, 1, 1), ((0, 1),), ())))
        book.undo()
        self.assertTrue(book == other)
        self.assertFalse(book == Book(NAMES[1:5], FOUR))
        self.assertFalse(Book(NAMES[:2], ((1, 1), (), ())) == Book(NAMES[:2], ((1, None), (), ())))
        for thing in [*odd_things(), (NAMES[:4], FOUR), FOUR]:
            self.assertIs(book == thing, False)
            self.assertIs(book != thing, True)

    def test_two_books_share_nothing(self):
        book = Book(NAMES[:4], FOUR)
        book.all_done([("met", "ann", "bob"), ("in", "eve")])
        other = Book.of(NAMES[:4], FOUR, book.notes())
        other.undo()
        other.do(("numbers", (("cy", None), ("dee", None))))
        self.assertEqual(book.notes(), [("met", "ann", "bob"), ("in", "eve")])
        self.assertEqual(len(book), 5)
        self.assert_refused(errors.NoMark, book.redo)
        self.assertFalse(book == other)

    def test_in_and_items(self):
        book = Book(NAMES[:4], ((2, 1, 1, None), (), ()))
        for thing in [*odd_things(), "zoe", "Ann", ("ann",)]:
            self.assertIs(thing in book, thing == "ann")
            if thing != "ann":
                with self.assertRaises(errors.NoName):
                    book[thing]
        self.assertEqual([book[name] for name in book.names], [2, 1, 1, None])
        self.assertIsInstance(book.names, tuple)
        for name in ("names", "now"):
            with self.assertRaises(AttributeError):
                setattr(book, name, None)

    def test_names_of_pairs(self):
        book = Book(NAMES[:4], FOUR)
        for function in (book.state, book.paper):
            for thing in [*odd_things(), "zoe", 0]:
                if thing != "ann":
                    self.assert_refused(errors.NoName, function, thing, "ann")
                    self.assert_refused(errors.NoName, function, "ann", thing)
                    self.assert_refused(errors.NoName, function, thing, thing)
            self.assert_refused(errors.Mismatch, function, "ann", "ann")


class GreatTest(BookCase):
    def test_eight_persons(self):
        for party in [
            ((None,) * 8, (), ()), ((3,) * 8, (), ()), ((None,) * 6 + (3, 2), (), ()), ((7,) + (None,) * 7, (), ()),
            ((7,) + (1,) * 7, (), ()), ((None, 3, 4, 2, 2, 5, 3, 4), ((0, 6), (3, 6), (6, 7)), ()), ((2,) * 7, (), ()),
        ] + [party for party in drawn_parties(135, (7, 8), 12) if least_meeting(party)]:
            names = NAMES[:len(party[0])]
            book = Book(names, party)
            self.assertEqual(self.assert_refused(errors.TooMany, book.ask).limit, 6)
            found = states(party)
            open_ones = [pair for pair in found if found[pair] == "open"]
            with self.within():
                self.assertEqual(book.open_pairs(), [(names[a], names[b]) for a, b in open_ones])
            for a, b in list(found)[::9]:
                with self.within():
                    self.assertEqual(book.state(names[a], names[b]), found[a, b])
                    paper = book.paper(names[a], names[b])
                self.assertIs(shows_state(party, (a, b), paper), True)
            if open_ones:
                self.assert_fact(book, open_ones[-1])

    def assert_fact(self, book, pair):
        """Do a fact, and assert that the news are the pairs that it closed."""
        one, other = book.names[pair[0]], book.names[pair[1]]
        ahead = book.open_pairs()
        with self.within():
            book.do(("met", other, one))
        with self.within():
            news = book.news()
        self.assertIn((one, other, "met"), news)
        self.assertEqual([row[:2] for row in news], [two for two in ahead if two not in book.open_pairs()])
        for first, second, told in news:
            self.assertEqual(book.state(first, second), told)
        with self.within():
            book.undo()
            book.redo()
        self.assertEqual(book.news(), news)
        self.assertTrue(is_meeting(book.now, least_meeting(book.now)))

    def test_six_persons(self):
        for party in [((None,) * 6, (), ()), ((2,) * 6, (), ()), ((1,) * 6, ((0, 1),), ())]:
            book = Book(NAMES[:6], party)
            (a, b), yes, no = best_question(party)
            with self.within():
                self.assertEqual(book.ask(), (NAMES[a], NAMES[b], yes, no))
        self.assertIsNone(Book(NAMES[:6], ((0,) * 6, (), ())).ask())


if __name__ == "__main__":
    unittest.main()
