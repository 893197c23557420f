"""Whole numbers as rows of bytes, the lowest byte first."""


def number_of(row):
    number = 0
    for byte in reversed(row):
        number = number * 256 + byte
    return number


def row_of(number, size):
    return [(number >> (8 * place)) & 0xFF for place in range(size)]


def filled(row, size):
    return row + [0] * (size - len(row))
