"""The fields of a schema as bytes of a footer."""

from stripestack.errors import BadFile
from stripestack.numbers import take_byte
from stripestack.schema import KINDS, MOST_LEVELS, TIMES
from stripestack.values import put_signs, take_signs

# The byte of a group stands behind those of the kinds.
GROUP_BYTE = 3


def put_fields(fields):
    """Return the bytes of a tuple of fields."""
    written = [len(fields)]
    for name, times, kind in fields:
        written.extend([len(name)] + put_signs(name) + [TIMES.index(times)])
        if isinstance(kind, tuple):
            written.extend([GROUP_BYTE] + put_fields(kind))
        else:
            written.append(KINDS.index(kind))
    return written


def take_fields(data, at, level):
    """Return the tuple of the fields at a place, which lies on a level, and the index after them.

    Raise BadFile if the bytes are no fields. Whether the fields make a schema is not asked.
    """
    # Bytes may go on to tell of groups in groups, deeper than Python itself can follow.
    if level > MOST_LEVELS:
        raise BadFile("fields too deep")
    count, at = take_byte(data, at)
    fields = []
    for _ in range(count):
        field, at = _take_field(data, at, level)
        fields.append(field)
    return tuple(fields), at


def _take_field(data, at, level):
    length, at = take_byte(data, at)
    name, at = take_signs(data, at, length)
    times, at = _take_word_of(TIMES, data, at)
    if at < len(data) and data[at] == GROUP_BYTE:
        kind, at = take_fields(data, at + 1, level + 1)
    else:
        kind, at = _take_word_of(KINDS, data, at)
    return (name, times, kind), at


def _take_word_of(words, data, at):
    """Return the word whose index stands as a byte at a place, and the index after the byte."""
    byte, at = take_byte(data, at)
    if byte >= len(words):
        raise BadFile("byte of no word")
    return words[byte], at
