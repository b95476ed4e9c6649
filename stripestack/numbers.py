"""Numbers as bytes: by sevens of bits, as words, with their sign folded, and packed bit by bit."""

from stripestack.errors import BadFile

MOST_BYTES = 5
WORD_BYTES = 4


def put_number(number):
    """Return the bytes of a number that is not negative, seven bits in each."""
    written = []
    while number > 127:
        written.append(number & 127 | 128)
        number >>= 7
    written.append(number)
    return written


def take_number(data, at):
    """Return the number at a place and the index after it, or raise BadFile."""
    number = 0
    for place in range(MOST_BYTES):
        if at + place >= len(data):
            raise BadFile("number cut short")
        byte = data[at + place]
        number |= (byte & 127) << 7 * place
        if byte < 128:
            # A last byte 0 adds nothing: the number has a shorter form.
            if byte == 0 and place > 0:
                raise BadFile("number with a needless byte")
            return number, at + place + 1
    raise BadFile("number too long")


def put_word(number):
    """Return the four bytes of a number modulo 2 to the power of 32."""
    return [number & 255, number >> 8 & 255, number >> 16 & 255, number >> 24 & 255]


def take_word(data, at):
    """Return the word at a place, a number from 0, and the index after it, or raise BadFile."""
    end = at + WORD_BYTES
    if end > len(data):
        raise BadFile("word cut short")
    word = data[at] | data[at + 1] << 8 | data[at + 2] << 16 | data[at + 3] << 24
    return word, end


def take_byte(data, at):
    """Return the byte at a place and the index after it, or raise BadFile."""
    if at >= len(data):
        raise BadFile("byte cut short")
    return data[at], at + 1


def fold_sign(number):
    """Return the number from 0 that stands for an integer of either sign."""
    if number < 0:
        return -2 * number - 1
    return 2 * number


def unfold_sign(number):
    """Return the integer that a folded number stands for."""
    if number & 1 == 1:
        return -(number // 2) - 1
    return number // 2


def width_of(most):
    """Return the number of the bits of a greatest number."""
    return most.bit_length()


def pack(numbers, width):
    """Return the bytes of numbers of a width, packed bit by bit, the lowest bits first."""
    packed = []
    held = 0
    filled = 0
    for number in numbers:
        held |= number << filled
        filled += width
        while filled >= 8:
            packed.append(held & 255)
            held >>= 8
            filled -= 8
    if filled > 0:
        packed.append(held & 255)
    return packed


def unpack(data, at, count, width):
    """Return the list of so many packed numbers and the index after them, or raise BadFile."""
    if width == 0:
        return [0] * count, at
    end = at + (count * width + 7) // 8
    if end > len(data):
        raise BadFile("packed numbers cut short")
    lowest = (1 << width) - 1
    numbers = []
    held = 0
    filled = 0
    for byte in data[at:end]:
        held |= byte << filled
        filled += 8
        while filled >= width and len(numbers) < count:
            numbers.append(held & lowest)
            held >>= width
            filled -= width
    # What is held now are the bits left over in the last byte.
    if held != 0:
        raise BadFile("bits left over")
    return numbers, end
