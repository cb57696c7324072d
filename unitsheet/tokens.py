"""The bytes of a sheet, parted into tokens. A token is a text: a name, a word, a number or a sign."""

from unitsheet.refusals import NoSheet

LETTERS = "abcdefghijklmnopqrstuvwxyz"
DIGITS = "0123456789"
SIGNS = "(),;=+-*/^<"
BLANKS = " \n"
POINT = "."
UNDERSCORE = "_"
WORDS = ("unit", "let", "fn", "if", "then", "else")
LONGEST_NAME = 16
MOST_DIGITS = 15


def is_name(token):
    return token[:1].isalpha() and token not in WORDS


def is_number(token):
    return token[:1].isdigit()


# The row's bytes as a text. Only what a sheet may hold gets in, so isalpha and isdigit mean a to z and 0 to 9.
def text_of(row):
    by_byte = {}
    for letter in LETTERS + DIGITS + SIGNS + BLANKS + POINT + UNDERSCORE:
        by_byte[ord(letter)] = letter
    letters = []
    for byte in row:
        if byte not in by_byte:
            raise NoSheet()
        letters.append(by_byte[byte])
    return "".join(letters)


def tokens_of(row):
    text = text_of(row)
    tokens = []
    at = 0
    while at < len(text):
        if text[at] in BLANKS:
            at += 1
        else:
            end = token_end(text, at)
            tokens.append(text[at:end])
            at = end
    return tokens


def token_end(text, at):
    if text[at].isalpha():
        return name_end(text, at)
    if text[at].isdigit():
        return number_end(text, at)
    if text[at] in SIGNS:
        return at + 1
    raise NoSheet()


def name_end(text, at):
    end = at
    while end < len(text) and (text[end].isalnum() or text[end] == UNDERSCORE):
        end += 1
    if end - at > LONGEST_NAME:
        raise NoSheet()
    return end


def number_end(text, at):
    end = digits_end(text, at)
    digits = end - at
    if text[end:end + 1] == POINT:
        start = end + 1
        end = digits_end(text, start)
        if end == start:
            raise NoSheet()
        digits += end - start
    if digits > MOST_DIGITS:
        raise NoSheet()
    return end


def digits_end(text, at):
    end = at
    while end < len(text) and text[end].isdigit():
        end += 1
    return end
