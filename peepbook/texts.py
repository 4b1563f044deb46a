"""Texts as they are handed in and given back: bytes, lines and numbers."""

from peepbook.refusals import OutOfBounds

MOST_BYTES = 4096
LARGEST = 4294967295
LARGEST_DIGITS = 10
READABLE = "\n +-0123456789=>abcdefghijklmnopqrstuvwxyz"
UNREADABLE = "?"


def text_of(numbers):
    """The text that these bytes are, if they aren't too many."""
    if len(numbers) > MOST_BYTES:
        raise OutOfBounds()
    signs = {}
    for sign in READABLE:
        signs[ord(sign)] = sign
    # No line that can be read has the sign that stands for all other bytes.
    return "".join([signs.get(number, UNREADABLE) for number in numbers])


def bytes_of(text):
    """The bytes of a text."""
    return [ord(sign) for sign in text]


def lines_of(text):
    """The lines of a text: what has a line feed behind it."""
    return text.split("\n")[:-1]


def has_open_end(text):
    """Whether something stands behind the last line feed."""
    return text != "" and not text.endswith("\n")


def read_number(word):
    """The number that a word tells in decimal, or None."""
    if not word.isdigit() or len(word) > LARGEST_DIGITS:
        return None
    if word.startswith("0") and word != "0":
        return None
    number = int(word)
    if number > LARGEST:
        return None
    return number
