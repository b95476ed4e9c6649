"""Values as bytes: one alone, and those of a page in one of the encodings of their kind."""

from stripestack.errors import BadFile
from stripestack.levels import put_levels, take_levels
from stripestack.numbers import fold_sign, put_number, take_number, unfold_sign
from stripestack.numbers import pack, put_word, take_byte, take_word, unpack
from stripestack.records import GREATEST_INT, MOST_TEXT, is_value

DICTIONARY = 1
DIFFERENCES = 2
ENCODINGS = {"int": (0, 1, 2), "bool": (0,), "text": (0, 1)}
# The signs from the space on, and those behind the one sign that no text may have.
LOW_SIGNS = " !\"#$"
LOW_CODE = 32
HIGH_SIGNS = "&'()*+,-./0123456789:;<=>?@ABCDEFGHIJKLMNOPQRSTUVWXYZ[\\]^_`abcdefghijklmnopqrstuvwxyz{|}~"
HIGH_CODE = 38


def allowed(kind):
    """Return the tuple of the encodings of a kind, ascending."""
    return ENCODINGS[kind]


def put_signs(text):
    """Return the codes of the characters of a text."""
    return [ord(sign) for sign in text]


def take_signs(data, at, count):
    """Return the text of so many codes and the index after them, or raise BadFile."""
    end = at + count
    if end > len(data):
        raise BadFile("text cut short")
    return "".join([_sign_of(code) for code in data[at:end]]), end


def _sign_of(code):
    if 0 <= code - LOW_CODE < len(LOW_SIGNS):
        return LOW_SIGNS[code - LOW_CODE]
    if 0 <= code - HIGH_CODE < len(HIGH_SIGNS):
        return HIGH_SIGNS[code - HIGH_CODE]
    raise BadFile("code of no character")


def put_one(kind, value):
    """Return the bytes of one value."""
    if kind == "int":
        return put_word(value)
    if kind == "bool":
        return [int(value)]
    return put_number(len(value)) + put_signs(value)


def take_one(kind, data, at):
    """Return the value at a place and the index after it, or raise BadFile."""
    if kind == "int":
        word, at = take_word(data, at)
        return _signed(word), at
    if kind == "bool":
        byte, at = take_byte(data, at)
        if byte > 1:
            raise BadFile("bool above 1")
        return byte == 1, at
    length, at = take_number(data, at)
    if length > MOST_TEXT:
        raise BadFile("text too long")
    return take_signs(data, at, length)


def _signed(word):
    """Return the integer whose two's complement a word is."""
    if word > GREATEST_INT:
        return word - (1 << 32)
    return word


def put_values(kind, values, encoding):
    """Return the bytes of the values of a page in an encoding."""
    if encoding == DICTIONARY:
        return _put_dictionary(kind, values)
    if encoding == DIFFERENCES:
        return _put_differences(values)
    return _put_plain(kind, values)


def take_values(kind, data, at, count, encoding):
    """Return the list of so many values and the index after them, or raise BadFile."""
    if encoding == DICTIONARY:
        return _take_dictionary(kind, data, at, count)
    if encoding == DIFFERENCES:
        return _take_differences(data, at, count)
    return _take_plain(kind, data, at, count)


def _put_plain(kind, values):
    if kind == "bool":
        return pack([int(value) for value in values], 1)
    return [byte for value in values for byte in put_one(kind, value)]


def _take_plain(kind, data, at, count):
    if kind == "bool":
        bits, at = unpack(data, at, count, 1)
        return [bit == 1 for bit in bits], at
    values = []
    for _ in range(count):
        value, at = take_one(kind, data, at)
        values.append(value)
    return values, at


def _put_dictionary(kind, values):
    places = {}
    for value in values:
        if value not in places:
            places[value] = len(places)
    indexes = [places[value] for value in values]
    return put_number(len(places)) + _put_plain(kind, list(places)) + put_levels(indexes, _last_index(len(places)))


def _take_dictionary(kind, data, at, count):
    size, at = take_number(data, at)
    known, at = _take_plain(kind, data, at, size)
    indexes, at = take_levels(data, at, count, _last_index(size))
    # Without values, the levels have no bytes that could tell an index too great.
    if size == 0 and count > 0:
        raise BadFile("dictionary without values")
    return [known[index] for index in indexes], at


def _last_index(size):
    return max(size - 1, 0)


def _put_differences(values):
    written = []
    before = 0
    for value in values:
        written.extend(put_number(fold_sign(value - before)))
        before = value
    return written


def _take_differences(data, at, count):
    values = []
    value = 0
    for _ in range(count):
        folded, at = take_number(data, at)
        value += unfold_sign(folded)
        if not is_value("int", value):
            raise BadFile("difference out of range")
        values.append(value)
    return values, at
