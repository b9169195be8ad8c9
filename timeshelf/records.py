"""Integers, strings and records as bytes: lists of integers from 0 to 255."""

from timeshelf.sums import sum_of

BASE = 128
MODULUS = 65521
# All that a text can have, besides the newline.
CHARACTERS = " !\"#$&'()*+,-./0123456789:;<=>?@ABCDEFGHIJKLMNOPQRSTUVWXYZ[\\]^_`abcdefghijklmnopqrstuvwxyz{|}~"


def number_bytes(n):
    """The bytes of an integer from 0 on."""
    digits = []
    while n >= BASE:
        digits.append(n % BASE + BASE)
        n = n // BASE
    digits.append(n)
    return digits


def text_bytes(text):
    """The bytes of a string."""
    return number_bytes(len(text)) + [ord(character) for character in text]


def read_number(data, at):
    """The tuple of the integer that is written at this index and the index behind it; None if there is none."""
    number = 0
    worth = 1
    for index in range(at, len(data)):
        digit = data[index]
        if digit < BASE:
            # A last digit 0 would only make the integer longer.
            if digit == 0 and index > at:
                return None
            return (number + digit * worth, index + 1)
        number += (digit - BASE) * worth
        worth *= BASE
    return None


def read_text(data, at):
    """The tuple of the string that is written at this index and the index behind it; None if there is none."""
    found = read_number(data, at)
    if found is None:
        return None
    length, start = found
    by_code = {ord(character): character for character in CHARACTERS + "\n"}
    letters = [by_code[code] for code in data[start:start + length] if code in by_code]
    # Fewer than that if the bytes end too early, or are not all codes of characters.
    if len(letters) < length:
        return None
    return ("".join(letters), start + length)


def record_of(body):
    """The bytes of the record with this body."""
    return number_bytes(len(body)) + body + number_bytes(sum_of(body, MODULUS))


def read_record(data, at):
    """The tuple of the body of the whole record at this index and the index behind it; None if there is none."""
    found = read_number(data, at)
    if found is None:
        return None
    length, start = found
    body = data[start:start + length]
    if len(body) < length:
        return None
    told = read_number(data, start + length)
    if told is None or told[0] != sum_of(body, MODULUS):
        return None
    return (body, told[1])
