"""Reading a text: its program and its relations, or a fault."""

from relationshelddesk.kinds import CONDITION_LIMITS, CONDITION_WORDS, MOST_RELATIONS, MOST_STEPS
from relationshelddesk.kinds import STEP_LIMITS, STEP_WORDS, WAY_WORDS
from relationshelddesk.relations import Relation
from relationshelddesk.tokens import Fault, tokens_of


class Reader:
    def __init__(self, tokens):
        self.tokens = tokens
        self.position = 0

    def token_now(self):
        return self.tokens[self.position][0]

    def place_now(self):
        return self.tokens[self.position][1]

    def go_on(self):
        self.position += 1


def pass_by(reader, token):
    if reader.token_now() != token:
        raise Fault(2, reader.place_now())
    reader.go_on()


def one_of(reader, words):
    word = reader.token_now()
    if word not in words:
        raise Fault(2, reader.place_now())
    return word


def read_number(reader, limits):
    digits = reader.token_now()
    if not digits.isdigit():
        raise Fault(2, reader.place_now())
    number = int(digits)
    if not limits[0] <= number <= limits[1]:
        raise Fault(3, reader.place_now())
    reader.go_on()
    return number


def read_int(reader, limits):
    if reader.token_now() != "-":
        return read_number(reader, limits)
    minus_place = reader.place_now()
    reader.go_on()
    if reader.token_now() == "0":
        raise Fault(3, minus_place)
    return -read_number(reader, limits)


# Reading stands at the word, which is one that may stand here.
def read_with_number(reader, limits_of_words):
    word = reader.token_now()
    reader.go_on()
    if word not in limits_of_words:
        return (word, 0)
    limits = limits_of_words[word]
    if limits[0] < 0:
        return (word, read_int(reader, limits))
    return (word, read_number(reader, limits))


def read_steps(reader):
    steps = []
    pass_by(reader, "(")
    while reader.token_now() != ")":
        one_of(reader, STEP_WORDS)
        if len(steps) == MOST_STEPS:
            raise Fault(4, reader.place_now())
        steps.append(read_with_number(reader, dict(STEP_LIMITS)))
    reader.go_on()
    return steps


def read_relation(reader):
    pass_by(reader, "relation")
    one_of(reader, CONDITION_WORDS)
    condition = read_with_number(reader, dict(CONDITION_LIMITS))
    pass_by(reader, "input")
    input_turning = read_steps(reader)
    pass_by(reader, "output")
    way = one_of(reader, WAY_WORDS)
    reader.go_on()
    output_turning = read_steps(reader)
    pass_by(reader, ";")
    return Relation(condition, input_turning, way, output_turning)


# The program and the list of relations.
def read_text(text):
    reader = Reader(tokens_of(text))
    pass_by(reader, "program")
    program = read_steps(reader)
    pass_by(reader, ";")
    relations = []
    while reader.token_now() != "":
        if reader.token_now() == "relation" and len(relations) == MOST_RELATIONS:
            raise Fault(4, reader.place_now())
        relations.append(read_relation(reader))
    return (program, relations)
