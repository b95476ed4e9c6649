"""Pages: the entries of a column as bytes, and what is told of them."""

from stripestack.errors import BadFile
from stripestack.levels import put_levels, take_levels
from stripestack.numbers import put_number, put_word, take_byte, take_number, take_word
from stripestack.values import put_one, put_values, take_one, take_values

MOST_ENTRIES = 20000
NO_VALUES = 0
SOME_VALUES = 1
ALL_VALUES = 2
NOTHING_TOLD = (NO_VALUES, None, None, 0)
MOST_WORD = 4294967295
MARK_FACTOR = 2654435761
# What a division by 134217728 takes from the bits of a word.
MARK_SHIFT = 27
TEXT_FACTOR = 31


def put_page(column, entries, encoding):
    """Return the bytes of a page."""
    _, kind, most_definition, most_repetition = column
    repetitions = [entry[0] for entry in entries]
    definitions = [entry[1] for entry in entries]
    levels = put_levels(repetitions, most_repetition) + put_levels(definitions, most_definition)
    return put_number(len(entries)) + levels + put_values(kind, _values_of(column, entries), encoding)


def _values_of(column, entries):
    """Return the values of the entries that have one."""
    return [entry[2] for entry in entries if entry[1] == column[2]]


def take_page(column, data, encoding):
    """Return the entries of a page that ends where its bytes end, or raise BadFile."""
    _, kind, most_definition, most_repetition = column
    count, at = take_number(data, 0)
    if count > MOST_ENTRIES:
        raise BadFile("too many entries")
    repetitions, at = take_levels(data, at, count, most_repetition)
    definitions, at = take_levels(data, at, count, most_definition)
    values, at = take_values(kind, data, at, definitions.count(most_definition), encoding)
    if at != len(data):
        raise BadFile("bytes behind a page")
    entries = []
    used = 0
    for repetition, definition in zip(repetitions, definitions):
        if definition == most_definition:
            entries.append((repetition, definition, values[used]))
            used += 1
        else:
            entries.append((repetition, definition, None))
    return entries


def mark_of(kind, value):
    """Return the mark of a value, a number from 0 to 31."""
    number = _text_number(value) if kind == "text" else int(value)
    return (number * MARK_FACTOR & MOST_WORD) >> MARK_SHIFT


def _text_number(text):
    number = 0
    for sign in text:
        number = TEXT_FACTOR * number + ord(sign) & MOST_WORD
    return number


def has_mark(sieve, mark):
    """Return True if a sieve has a mark."""
    return sieve >> mark & 1 == 1


def told_of(column, entries):
    """Return what is told of the page with these entries."""
    values = _values_of(column, entries)
    if len(values) == 0:
        return NOTHING_TOLD
    state = ALL_VALUES if len(values) == len(entries) else SOME_VALUES
    sieve = 0
    for value in values:
        sieve |= 1 << mark_of(column[1], value)
    return state, min(values), max(values), sieve


def put_told(column, told):
    """Return the bytes of what is told of a page."""
    state, least, greatest, sieve = told
    if state == NO_VALUES:
        return [state]
    return [state] + put_one(column[1], least) + put_one(column[1], greatest) + put_word(sieve)


def take_told(column, data, at):
    """Return what is told of a page and the index after it, or raise BadFile."""
    state, at = take_byte(data, at)
    if state > ALL_VALUES:
        raise BadFile("state above 2")
    if state == NO_VALUES:
        return NOTHING_TOLD, at
    least, at = take_one(column[1], data, at)
    greatest, at = take_one(column[1], data, at)
    sieve, at = take_word(data, at)
    return (state, least, greatest, sieve), at
