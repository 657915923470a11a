"""The tokens of a system's text."""

from raypaths.figures import POINT, digits_end, is_digit, pointed_of, whole_of

BLANKS = (32, 9, 10, 13)
COMMENT = 35
LINE_FEED = 10
UNDERSCORE = 95
MARKS = {58: ":", 44: ",", 59: ";", 47: "/", 45: "-"}
WORDS = ("after", "clear", "conic", "curve", "flat", "glass", "into", "mirror", "radius", "start", "stop", "surface")
NAME_BYTES = 32
NUMBER_DIGITS = 18


# The kind is the word or the mark itself, or one of name, whole, pointed, end, none (no token begins here);
# the value is a name's bytes or a number.
class Token:
    def __init__(self, kind, place, value):
        self.kind = kind
        self.place = place
        self.value = value


def is_letter(byte):
    return 65 <= byte <= 90 or 97 <= byte <= 122 or byte == UNDERSCORE


def is_row_byte(byte):
    return is_letter(byte) or is_digit(byte)


def comment_end(text, at):
    while at < len(text) and text[at] != LINE_FEED:
        at += 1
    return at


def blanks_end(text, at):
    while at < len(text) and (text[at] in BLANKS or text[at] == COMMENT):
        at = comment_end(text, at) if text[at] == COMMENT else at + 1
    return at


def row_end(text, at):
    while at < len(text) and is_row_byte(text[at]):
        at += 1
    return at


def number_end(text, at):
    middle = digits_end(text, at)
    if middle + 1 < len(text) and text[middle] == POINT and is_digit(text[middle + 1]):
        return digits_end(text, middle + 1)
    return middle


def words_by_bytes():
    words = {}
    for word in WORDS:
        words[tuple([ord(sign) for sign in word])] = word
    return words


def row_token(text, at, end, words):
    if end - at > NAME_BYTES:
        return Token("none", at, None)
    row = tuple(text[at:end])
    if row in words:
        return Token(words[row], at, None)
    return Token("name", at, row)


def number_token(text, at, end):
    middle = digits_end(text, at)
    digits = end - at if middle == end else end - at - 1
    goes_on = end < len(text) and (is_row_byte(text[end]) or text[end] == POINT)
    if digits > NUMBER_DIGITS or goes_on:
        return Token("none", at, None)
    if middle == end:
        return Token("whole", at, (whole_of(text[at:end]), 1))
    return Token("pointed", at, pointed_of(text[at:middle], text[middle + 1:end]))


# The last token is the text's end, or none: behind that one nothing is looked at.
def tokens_of(text):
    tokens = []
    words = words_by_bytes()
    at = blanks_end(text, 0)
    while at < len(text):
        end = at + 1
        if text[at] in MARKS:
            tokens.append(Token(MARKS[text[at]], at, None))
        elif is_letter(text[at]):
            end = row_end(text, at)
            tokens.append(row_token(text, at, end, words))
        elif is_digit(text[at]):
            end = number_end(text, at)
            tokens.append(number_token(text, at, end))
        else:
            tokens.append(Token("none", at, None))
        if tokens[-1].kind == "none":
            return tokens
        at = blanks_end(text, end)
    tokens.append(Token("end", len(text), None))
    return tokens
