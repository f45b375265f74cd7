"""What all texts are made of: bytes, lines, words, names and numbers."""

from batchworks.refusals import NoText

MOST_BYTES = 6000
MOST_RECORD_BYTES = 60000
MOST_SIGNS = 12
MOST_DIGITS = 7
LETTERS = "abcdefghijklmnopqrstuvwxyz"
DIGITS = "0123456789"
# No name, number or word of a form has this sign, so it may stand for all other bytes.
OTHER = "?"
KEPT = ("recipe", "end", "do", "takes", "to", "if", "then", "else", "either", "or", "both", "and",
        "again", "until", "use")


def sign_of(byte):
    if byte == 10:
        return "\n"
    if byte == 32:
        return " "
    if 97 <= byte <= 122:
        return LETTERS[byte - 97]
    if 48 <= byte <= 57:
        return DIGITS[byte - 48]
    return OTHER


def text_of(numbers, most):
    if len(numbers) > most:
        raise NoText()
    signs = []
    for number in numbers:
        if number < 0 or number > 255:
            raise NoText()
        signs.append(sign_of(number))
    return "".join(signs)


# A text as it is answered: its length, then its bytes.
def answer_of(lines):
    signs = "".join([line + "\n" for line in lines])
    return [len(signs)] + [ord(sign) for sign in signs]


def line_of(words):
    return " ".join([str(word) for word in words])


# The lines that have words, each with its number.
def lines_of(text):
    told = []
    for line, signs in enumerate(text.split("\n"), start=1):
        words = signs.split()
        if len(words) > 0:
            told.append((line, words))
    return told


def is_name(word):
    if word in KEPT or len(word) > MOST_SIGNS or word[0] not in LETTERS:
        return False
    return all([sign in LETTERS or sign in DIGITS for sign in word])


def is_number(word, least, most):
    if len(word) > MOST_DIGITS or not all([sign in DIGITS for sign in word]):
        return False
    if len(word) > 1 and word[0] == "0":
        return False
    return least <= int(word) <= most
