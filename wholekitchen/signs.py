"""Bytes as texts and back, and the words that texts are made of."""

LETTERS = "abcdefghijklmnopqrstuvwxyz"
DIGITS = "0123456789"
LINE_END = 10
BLANK = 32
FIRST_DIGIT = 48
FIRST_LETTER = 97
LONGEST_NAME = 8


def sign_of(byte):
    if byte == LINE_END:
        return "\n"
    if byte == BLANK:
        return " "
    if FIRST_DIGIT <= byte < FIRST_DIGIT + len(DIGITS):
        return DIGITS[byte - FIRST_DIGIT]
    if FIRST_LETTER <= byte < FIRST_LETTER + len(LETTERS):
        return LETTERS[byte - FIRST_LETTER]
    # No word of a recipe and no name has any other byte, so one sign
    # that is in none of them may stand for them all.
    return "?"


def text_of(row):
    return "".join([sign_of(byte) for byte in row])


def bytes_of(text):
    return [ord(sign) for sign in text]


def is_name(word):
    return 1 <= len(word) <= LONGEST_NAME and all([sign in LETTERS for sign in word])


def number_of(word, most):
    """The number from 1 to most that a word tells, or 0 if it tells none."""
    if word[0] == "0" or not all([sign in DIGITS for sign in word]):
        return 0
    number = int(word)
    return number if number <= most else 0
