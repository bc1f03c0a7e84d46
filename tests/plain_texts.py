"""What point 13 says in its own words, slow and made without the package: tokens, texts and where one goes wrong."""

import functools
import itertools
import re

CHARACTERS = ",;/?-"
# Whatever a text can go on with, some row of these tokens does, too.
ALPHABET = [*CHARACTERS, "met", "apart", *map(str, range(8))]


def rows_of(text):
    """Return the tuples (row, column) of the rows of letters and digits, and of all other characters but blanks."""
    return [(found.group(), found.start() + 1) for found in re.finditer(r"[a-z0-9]+|[^ \t]", text, re.DOTALL)]


def is_token(row):
    return re.fullmatch(r"[a-z][a-z0-9]{0,7}|0|[1-9][0-9]{0,9}|[,;/?-]", row) is not None


def numbers_in(tokens):
    """Return the integers that tokens tell, or None if one of them is none."""
    return [int(token) for token in tokens] if all(token.isdigit() for token in tokens) else None


def split_at(tokens, mark):
    """Return the lists of the tokens between marks."""
    found = [[]]
    for token in tokens:
        if token == mark:
            found.append([])
        else:
            found[-1].append(token)
    return found


def are_pairs(tokens):
    pairs = [numbers_in(two) for two in split_at(tokens, ",")]
    if any(two is None or len(two) != 2 or not 0 <= two[0] < two[1] <= 7 for two in pairs):
        return False
    return all(one < other for one, other in zip(pairs, pairs[1:]))


def are_numbers(tokens):
    return 1 <= len(tokens) <= 8 and all(token == "?" or token.isdigit() and int(token) <= 20 for token in tokens)


def is_side(tokens):
    told = numbers_in(tokens)
    if tokens == ["-"]:
        return True
    return bool(told) and told[-1] <= 7 and all(one < other for one, other in zip(told, told[1:]))


def is_text(kind, tokens):
    """Tell whether tokens make a text of a kind."""
    if kind == "meeting":
        return tokens == ["-"] or are_pairs(tokens)
    if kind == "bar":
        sides = split_at(tokens, "/")
        return len(sides) == 2 and is_side(sides[0]) and is_side(sides[1])
    numbers, *facts = split_at(tokens, ";")
    words = [fact[:1] for fact in facts]
    if not are_numbers(numbers) or words not in ([], [["met"]], [["apart"]], [["met"], ["apart"]]):
        return False
    return all(are_pairs(fact[1:]) for fact in facts)


@functools.lru_cache(maxsize=None)
def goes_on(kind, tokens):
    """Tell whether a text of a kind begins with tokens, a tuple, by trying what can stand behind them."""
    return any(
        is_text(kind, [*tokens, *more]) for count in range(4) for more in itertools.product(ALPHABET, repeat=count)
    )


def wrong_column(kind, text):
    """Return the column at which a text is wrong, or None if it is right."""
    rows = rows_of(text)
    for row, column in rows:
        if not is_token(row):
            return column
    tokens = [row for row, _ in rows]
    if is_text(kind, tokens):
        return None
    for count, (_, column) in enumerate(rows):
        if not goes_on(kind, tuple(tokens[:count + 1])):
            return column
    return len(text) + 1


def pairs_text(pairs):
    return ", ".join(f"{one} {other}" for one, other in pairs)


def party_text(party):
    """Return the canonical text of a party."""
    numbers = " ".join("?" if number is None else str(number) for number in party[0])
    facts = [f"; {word} {pairs_text(pairs)}" for word, pairs in zip(["met", "apart"], party[1:]) if pairs]
    return numbers + "".join(facts)


def meeting_text(meeting):
    return pairs_text(meeting) or "-"


def bar_text(bar):
    return " / ".join(" ".join(map(str, side)) or "-" for side in bar)
