"""Texts of parties, meetings and bars: reading them, and the canonical ones."""

from metnumbers.errors import NoBar
from metnumbers.parties import GREATEST_NUMBER, MOST_PERSONS, need_party
from metnumbers.tokens import Reader

LAST_PERSON = 7
LAST_PAIR = (6, 7)


def read_told(reader):
    """Read what a person told: a number, or None for ?."""
    return None if reader.takes("?") else reader.number(0, GREATEST_NUMBER)


def read_numbers(reader):
    """Read one to eight numbers."""
    numbers = [read_told(reader)]
    while len(numbers) < MOST_PERSONS and (reader.is_at_number() or reader.token() == "?"):
        numbers.append(read_told(reader))
    return tuple(numbers)


def read_pair(reader, ahead):
    """Read a pair that is greater than one ahead of it."""
    # Behind a pair with the last person there is none with the same first one.
    first = ahead[0] if ahead[1] < LAST_PERSON else ahead[0] + 1
    one = reader.number(first, LAST_PERSON - 1)
    second = ahead[1] + 1 if one == ahead[0] else one + 1
    return one, reader.number(second, LAST_PERSON)


def read_pairs(reader):
    """Read one or more pairs, ascending."""
    pairs = [read_pair(reader, (0, 0))]
    while pairs[-1] != LAST_PAIR and reader.takes(","):
        pairs.append(read_pair(reader, pairs[-1]))
    return tuple(pairs)


def read_facts(reader):
    """Read what a party's text tells behind the numbers: met and apart."""
    if not reader.takes(";"):
        return (), ()
    met = ()
    if reader.takes("met"):
        met = read_pairs(reader)
        if not reader.takes(";"):
            return met, ()
    reader.need("apart")
    return met, read_pairs(reader)


def parse_party(text):
    """Return the party that a text tells."""
    reader = Reader(text)
    numbers = read_numbers(reader)
    met, apart = read_facts(reader)
    reader.need_end()
    party = (numbers, met, apart)
    need_party(party)
    return party


def parse_meeting(text):
    """Return the tuple of the pairs that a text tells."""
    reader = Reader(text)
    meeting = () if reader.takes("-") else read_pairs(reader)
    reader.need_end()
    return meeting


def read_side(reader):
    """Read a side of a bar."""
    if reader.takes("-"):
        return ()
    side = [reader.number(0, LAST_PERSON)]
    while reader.is_at_number():
        side.append(reader.number(side[-1] + 1, LAST_PERSON))
    return tuple(side)


def parse_bar(text):
    """Return the tuple of the two sides of a bar that a text tells."""
    reader = Reader(text)
    first = read_side(reader)
    reader.need("/")
    second = read_side(reader)
    reader.need_end()
    if any([person in first for person in second]):
        raise NoBar("a person is in both sides")
    return first, second


def format_pairs(pairs):
    """Return the canonical text of one or more pairs."""
    return ", ".join([f"{one} {other}" for one, other in pairs])


def format_persons(persons):
    """Return the canonical text of persons, which may be none."""
    return " ".join([str(person) for person in persons]) if persons else "-"


def format_party(party):
    """Return the canonical text of a party."""
    need_party(party)
    numbers, met, apart = party
    text = " ".join(["?" if number is None else str(number) for number in numbers])
    if met:
        text += f"; met {format_pairs(met)}"
    if apart:
        text += f"; apart {format_pairs(apart)}"
    return text


def format_meeting(meeting):
    """Return the canonical text of a meeting."""
    return format_pairs(meeting) if meeting else "-"


def format_bar(bar):
    """Return the canonical text of a bar."""
    first, second = bar
    return f"{format_persons(first)} / {format_persons(second)}"
