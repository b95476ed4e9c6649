"""Levels: numbers up to a greatest one, written as runs of equal ones and as packed pieces."""

from stripestack.errors import BadFile
from stripestack.numbers import pack, put_number, take_number, unpack, width_of

LEAST_RUN = 4
MOST_PIECE = 32


def put_levels(numbers, most):
    """Return the bytes of numbers from 0 to a greatest one."""
    width = width_of(most)
    if width == 0:
        return []
    written = []
    # The numbers before this place are written.
    done = 0
    at = 0
    while at < len(numbers):
        end = _end_of_equals(numbers, at)
        if end - at >= LEAST_RUN:
            written.extend(_put_pieces(numbers[done:at], width))
            written.extend(put_number(2 * (end - at)) + put_number(numbers[at]))
            done = end
        at = end
    written.extend(_put_pieces(numbers[done:], width))
    return written


def _end_of_equals(numbers, at):
    """Return the index after the equal numbers that begin at a place."""
    end = at + 1
    while end < len(numbers) and numbers[end] == numbers[at]:
        end += 1
    return end


def _put_pieces(numbers, width):
    """Return the bytes of numbers among which no run stands."""
    written = []
    for at in range(0, len(numbers), MOST_PIECE):
        piece = numbers[at:at + MOST_PIECE]
        written.extend(put_number(2 * len(piece) + 1) + pack(piece, width))
    return written


def take_levels(data, at, count, most):
    """Return the list of so many numbers and the index after them, or raise BadFile."""
    width = width_of(most)
    if width == 0:
        return [0] * count, at
    numbers = []
    while len(numbers) < count:
        head, at = take_number(data, at)
        length = head // 2
        if length == 0 or length > count - len(numbers):
            raise BadFile("length of levels")
        if head & 1 == 1:
            piece, at = unpack(data, at, length, width)
        else:
            level, at = take_number(data, at)
            piece = [level] * length
        if max(piece) > most:
            raise BadFile("level too great")
        numbers.extend(piece)
    return numbers, at
