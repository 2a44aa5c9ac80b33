"""Texts as lists of bytes, split into tokens."""

LETTERS = "abcdefghijklmnopqrstuvwxyz"

FIRST_LETTER = 97

DIGITS = "0123456789"

FIRST_DIGIT = 48

SIGNS = {40: "(", 41: ")", 59: ";", 45: "-"}

BLANKS = (32, 10)

LONGEST_WORD = 8

LONGEST_NUMBER = 2


class Fault(Exception):
    def __init__(self, kind, place):
        self.kind = kind
        self.place = place


# The longest run, from the place on, of these signs, whose bytes follow one another from the first one on.
def run_of(text, place, signs, first):
    found = []
    end = place
    while end < len(text) and first <= text[end] < first + len(signs):
        found.append(signs[text[end] - first])
        end += 1
    return "".join(found)


def word_at(text, place):
    word = run_of(text, place, LETTERS, FIRST_LETTER)
    return word if len(word) <= LONGEST_WORD else ""


def number_at(text, place):
    number = run_of(text, place, DIGITS, FIRST_DIGIT)
    if len(number) > LONGEST_NUMBER or (len(number) > 1 and number[0] == "0"):
        return ""
    return number


def token_at(text, place):
    if text[place] in SIGNS:
        return SIGNS[text[place]]
    return word_at(text, place) or number_at(text, place)


# Each token with its place. Behind them stands an empty one for the text's end,
# so that reading needs no other care for it.
def tokens_of(text):
    tokens = []
    place = 0
    while place < len(text):
        if text[place] in BLANKS:
            place += 1
            continue
        token = token_at(text, place)
        if token == "":
            raise Fault(1, place)
        tokens.append((token, place))
        place += len(token)
    tokens.append(("", len(text)))
    return tokens
