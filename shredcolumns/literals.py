"""Literals of the leaf kinds: what is written, and the value that it stands for."""

from shredcolumns.fields import BIT, WHOLE
from shredcolumns.reader import Reader
from shredcolumns.refusals import WrongText
from shredcolumns.signs import (
    BACKSLASH, DIGIT_ONE, DIGIT_ZERO, LETTER_A, LETTER_F, MINUS, QUOTE, is_digit, is_plain,
)


class Literal:
    def __init__(self, signs, meaning):
        self.signs = signs
        # A whole number, or a list of bytes: Python orders both as the literals of their kind are ordered.
        self.meaning = meaning


def read_literal(reader, field):
    begin = reader.place
    meaning = read_meaning(reader, field)
    return Literal(reader.text[begin:reader.place], meaning)


def literal_or_none(text, field):
    reader = Reader(text)
    try:
        literal = read_literal(reader, field)
        reader.expect_end()
    except WrongText:
        return None
    return literal


def read_meaning(reader, field):
    if field.kind == BIT:
        return read_bit(reader)
    if field.kind == WHOLE:
        return read_whole(reader, field.size)
    return read_quoted(reader, field.size)


def read_bit(reader):
    if reader.take(DIGIT_ZERO):
        return 0
    reader.expect(DIGIT_ONE)
    return 1


def read_whole(reader, size):
    half = power_of_two(size - 1)
    if reader.take(DIGIT_ZERO):
        return 0
    if reader.take(MINUS):
        return -read_positive(reader, half)
    return read_positive(reader, half - 1)


def power_of_two(exponent):
    power = 1
    for doubling in range(exponent):
        power = power * 2
    return power


def read_positive(reader, greatest):
    # A zero in front is never right here, since 0 itself is no positive number.
    if reader.peek() == DIGIT_ZERO:
        raise WrongText()
    number = 0
    while is_digit(reader.peek()):
        number = number * 10 + reader.peek() - DIGIT_ZERO
        # Looked at within the loop, so that a long row of digits makes no great number.
        if number > greatest:
            raise WrongText()
        reader.step()
    if number == 0:
        raise WrongText()
    return number


def read_quoted(reader, most):
    reader.expect(QUOTE)
    content = []
    while not reader.take(QUOTE):
        content.append(read_byte(reader))
    if len(content) > most:
        raise WrongText()
    return content


def read_byte(reader):
    if reader.take(BACKSLASH):
        return read_told_byte(reader)
    byte = reader.peek()
    if not is_plain(byte):
        raise WrongText()
    reader.step()
    return byte


def read_told_byte(reader):
    high = read_hex_digit(reader)
    low = read_hex_digit(reader)
    byte = high * 16 + low
    # Each byte is written in one way alone.
    if is_plain(byte):
        raise WrongText()
    return byte


def read_hex_digit(reader):
    sign = reader.peek()
    reader.step()
    if is_digit(sign):
        return sign - DIGIT_ZERO
    if LETTER_A <= sign <= LETTER_F:
        return sign - LETTER_A + 10
    raise WrongText()


def has_literals(field, wanted):
    if field.kind == BIT:
        return wanted <= 2
    if field.kind == WHOLE:
        return wanted <= power_of_two(field.size)
    return has_texts(field.size, wanted)


def has_texts(longest, wanted):
    of_this_length = 1
    found = 1
    for length in range(longest):
        # Stopped early, since the texts of up to 999 bytes are too many to be counted.
        if found >= wanted:
            return True
        of_this_length = of_this_length * 256
        found += of_this_length
    return found >= wanted
