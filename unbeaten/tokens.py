"""A text's tokens, and the faults 1 and 2, which are looked for before any token's place is judged.

A token's kind is, for a word or a sign, what is written ("measures", ","); else "name", "number"
or "end". What it says is a name's bytes or a number's worth, and None for the others.
"""

MOST_BYTES = 4096
MOST_NAME_BYTES = 16
MOST_NUMBER = 1000000000

LINE_END = 10
BLANKS = (32, 9, 10)
REMARK_SIGN = 35
SIGNS = {44: ",", 58: ":", 59: ";", 45: "-"}
WORDS = ("measures", "up", "down", "item")


class Fault(Exception):

    def __init__(self, code, place):
        self.code = code
        self.place = place


class Token:

    def __init__(self, kind, place, said):
        self.kind = kind
        self.place = place
        self.said = said


def bytes_of(text):
    return [ord(sign) for sign in text]


def is_digit(byte):
    return ord("0") <= byte <= ord("9")


def is_letter(byte):
    return ord("A") <= byte <= ord("Z") or ord("a") <= byte <= ord("z")


def is_letter_or_digit(byte):
    return is_letter(byte) or is_digit(byte)


def run_end(text, at, belongs):
    while at < len(text) and belongs(text[at]):
        at += 1
    return at


def remark_end(text, at):
    while at < len(text) and text[at] != LINE_END:
        at += 1
    return at


def skip_gap(text, at):
    while at < len(text) and (text[at] in BLANKS or text[at] == REMARK_SIGN):
        if text[at] == REMARK_SIGN:
            at = remark_end(text, at)
        else:
            at += 1
    return at


def token_end(text, at):
    if is_letter(text[at]):
        return run_end(text, at, is_letter_or_digit)
    if is_digit(text[at]):
        return run_end(text, at, is_digit)
    return at + 1


def word_or_name(piece, place):
    for word in WORDS:
        if piece == bytes_of(word):
            return Token(word, place, None)
    if len(piece) > MOST_NAME_BYTES:
        raise Fault(2, place)
    return Token("name", place, piece)


def number_token(digits, place):
    worth = 0
    for digit in digits:
        worth = worth * 10 + digit - ord("0")
    needless_zero = len(digits) > 1 and digits[0] == ord("0")
    if needless_zero or worth > MOST_NUMBER:
        raise Fault(2, place)
    return Token("number", place, worth)


def token_of(piece, place):
    if piece[0] in SIGNS:
        return Token(SIGNS[piece[0]], place, None)
    if is_letter(piece[0]):
        return word_or_name(piece, place)
    if is_digit(piece[0]):
        return number_token(piece, place)
    raise Fault(2, place)


def tokens_of(text):
    if len(text) > MOST_BYTES:
        raise Fault(1, MOST_BYTES)
    tokens = []
    at = skip_gap(text, 0)
    while at < len(text):
        past = token_end(text, at)
        tokens.append(token_of(text[at:past], at))
        at = skip_gap(text, past)
    tokens.append(Token("end", len(text), None))
    return tokens
