"""The tokens of texts, and a reader that takes them one after the other (point 13)."""

from metnumbers.errors import SyntaxProblem
from metnumbers.names import DIGITS, SIGNS, is_name

MARKS = (",", ";", "/", "?", "-")
BLANKS = (" ", "\t")
MOST_DIGITS = 10


def is_numeral(word):
    """Tell whether a string is an integer as texts have them: 0, or one to ten digits without a leading zero."""
    if not 1 <= len(word) <= MOST_DIGITS or not all([sign in DIGITS for sign in word]):
        return False
    return word == "0" or word[0] != "0"


def end_of_token(text, at):
    """Return the place behind the token that begins at a place, a row of letters and digits as long as it goes."""
    end = at + 1
    if text[at] in SIGNS:
        while end < len(text) and text[end] in SIGNS:
            end += 1
    return end


def tokens_of(text):
    """Return the list of the tuples (token, column) of a text, or raise SyntaxProblem at the first that is none."""
    found = []
    at = 0
    while at < len(text):
        end = end_of_token(text, at)
        token = text[at:end]
        if token not in BLANKS:
            if token not in MARKS and not is_name(token) and not is_numeral(token):
                raise SyntaxProblem(1, at + 1)
            found.append((token, at + 1))
        at = end
    return found


class Reader:
    """The tokens of a text, and how many of them are taken; behind the last one stands an empty token."""

    def __init__(self, text):
        self.tokens = tokens_of(text) + [("", len(text) + 1)]
        self.taken = 0

    def token(self):
        """Return the token that comes next, or an empty string at the end."""
        return self.tokens[self.taken][0]

    def refuse(self):
        """Raise SyntaxProblem at the token that comes next, or behind the text."""
        raise SyntaxProblem(1, self.tokens[self.taken][1])

    def takes(self, token):
        """Take a token if it comes next, and tell whether it does."""
        if self.token() != token:
            return False
        self.taken += 1
        return True

    def need(self, token):
        """Take a token, or raise SyntaxProblem if it does not come next."""
        if not self.takes(token):
            self.refuse()

    def need_end(self):
        """Raise SyntaxProblem if there is one more token."""
        if self.token() != "":
            self.refuse()

    def is_at_number(self):
        """Tell whether an integer comes next."""
        return is_numeral(self.token())

    def number(self, least, most):
        """Take an integer and return it, or raise SyntaxProblem if none that is in these bounds comes next."""
        if not self.is_at_number() or not least <= int(self.token()) <= most:
            self.refuse()
        self.taken += 1
        return int(self.tokens[self.taken - 1][0])
