"""A console: lines of commands for a book and for single parties, and their answers."""

from metnumbers.bars import bar_of
from metnumbers.book import Book
from metnumbers.errors import InvalidCommand, NoName
from metnumbers.meetings import how_many, least_meeting
from metnumbers.pieces import surely_one
from metnumbers.texts import format_bar, format_meeting, format_party, format_persons, parse_party
from metnumbers.threes import by_threes
from metnumbers.tokens import is_numeral
from metnumbers.wrongs import least_excuse

GREATEST_N = 1000000


def answer_fit(party):
    """Answer the command fit."""
    meeting = least_meeting(party)
    return f"none : {format_bar(bar_of(party))}" if meeting is None else format_meeting(meeting)


def answer_many(party):
    """Answer the command many."""
    return str(how_many(party))


def answer_one(party):
    """Answer the command one."""
    return "yes" if surely_one(party) else "no"


def answer_threes(party):
    """Answer the command threes."""
    numbers = list(by_threes(party))
    return f"{numbers[0]} {numbers[-1]}"


def answer_excuse(party):
    """Answer the command excuse."""
    return format_persons(least_excuse(party)[0])


def answer_party(book):
    """Answer the command party."""
    return format_party(book.now)


def answer_names(book):
    """Answer the command names."""
    return " ".join(book.names)


def answer_count(book):
    """Answer the command count."""
    return str(len(book.notes()))


def answer_pairs(book):
    """Answer the command pairs."""
    return listed(book.open_pairs())


def answer_news(book):
    """Answer the command news."""
    return listed(book.news())


def answer_ask(book):
    """Answer the command ask."""
    question = book.ask()
    return "none" if question is None else in_words(question)


def do_undo(book):
    """Do the command undo."""
    book.undo()
    return "ok"


def do_redo(book):
    """Do the command redo."""
    book.redo()
    return "ok"


def answer_state(book, one, other):
    """Answer the command state."""
    return book.state(one, other)


def answer_paper(book, one, other):
    """Answer the command paper."""
    word, *things = book.paper(one, other)
    if word == "open":
        told_things = [format_meeting(meeting) for meeting in things]
    else:
        told_things = ["known" if thing is None else format_bar(thing) for thing in things]
    return " : ".join([word] + told_things)


# The commands with a text, without words; those of a book without words, and with two names; the operations.
OF_A_PARTY = {
    "fit": answer_fit, "many": answer_many, "one": answer_one, "threes": answer_threes, "excuse": answer_excuse,
}
OF_A_BOOK = {
    "party": answer_party, "names": answer_names, "count": answer_count, "pairs": answer_pairs, "news": answer_news,
    "ask": answer_ask, "undo": do_undo, "redo": do_redo,
}
OF_TWO_NAMES = {"state": answer_state, "paper": answer_paper}
OPERATIONS_OF_TWO = {"met": "met", "apart": "apart", "free": "open"}
OPERATIONS_OF_ONE = ("in", "out")


def in_words(things):
    """Return names, words and numbers with one space between two."""
    return " ".join([str(thing) for thing in things])


def listed(rows):
    """Return rows of names and words with a comma between two, or - if there are none."""
    return ", ".join([in_words(row) for row in rows]) if rows else "-"


def is_n(word):
    """Tell whether a word is an integer from 0 to 10^6 without leading zeros, or ?."""
    return word == "?" or is_numeral(word) and int(word) <= GREATEST_N


def rows_of(words):
    """Return the rows of the command numbers, or raise InvalidCommand if the words are not names and N by turns."""
    names = words[::2]
    numbers = words[1::2]
    if not words or len(names) != len(numbers) or not all([is_n(word) for word in numbers]):
        raise InvalidCommand("behind numbers stand names and numbers")
    return tuple([(name, None if word == "?" else int(word)) for name, word in zip(names, numbers)])


def operation_of(word, words):
    """Return the operation that a command without a text does, or None if it does none of its own."""
    if word in OPERATIONS_OF_TWO and len(words) == 2:
        return OPERATIONS_OF_TWO[word], words[0], words[1]
    if word in OPERATIONS_OF_ONE and len(words) == 1:
        return word, words[0]
    return ("numbers", rows_of(words)) if word == "numbers" else None


class Console:
    """A console, which has no book at first."""

    def __init__(self):
        self.book = None

    def execute(self, line):
        """Do a command line and return its answer."""
        head, between, text = line.partition(" : ")
        word, *words = head.split(" ")
        if "" in words:
            raise InvalidCommand("there is one space between two words")
        return self.with_text(word, words, text) if between else self.of_the_book(word, words)

    def with_text(self, word, words, text):
        """Do a command with a text."""
        if word == "open" and words:
            self.book = Book(tuple(words), parse_party(text))
            return "ok"
        if word not in OF_A_PARTY or words:
            raise InvalidCommand("this is no command with a text")
        answer = OF_A_PARTY[word]
        return answer(parse_party(text))

    def of_the_book(self, word, words):
        """Do a command of the book, which has no text."""
        operation = operation_of(word, words)
        without_words = word in OF_A_BOOK and not words
        with_two = word in OF_TWO_NAMES and len(words) == 2
        if operation is None and not without_words and not with_two:
            raise InvalidCommand("this is no command without a text")
        if self.book is None:
            raise NoName("there is no book yet")
        if operation is not None:
            self.book.do(operation)
            return "ok"
        if without_words:
            answer = OF_A_BOOK[word]
            return answer(self.book)
        answer = OF_TWO_NAMES[word]
        return answer(self.book, words[0], words[1])
