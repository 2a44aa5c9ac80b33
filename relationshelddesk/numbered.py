"""Relations, rows and outcomes as numbers."""

from relationshelddesk.kinds import CONDITION_LIMITS, CONDITION_WORDS, MOST_STEPS, STEP_LIMITS, STEP_WORDS, WAY_WORDS
from relationshelddesk.relations import Relation


class NotRelation(Exception):
    def __init__(self, position):
        self.position = position


class NumberReader:
    def __init__(self, numbers):
        self.numbers = numbers
        self.position = 0

    def is_at_end(self):
        return self.position == len(self.numbers)

    def number_within(self, lowest, highest):
        if self.is_at_end() or not lowest <= self.numbers[self.position] <= highest:
            raise NotRelation(self.position)
        self.position += 1
        return self.numbers[self.position - 1]


def word_from(reader, words):
    return words[reader.number_within(0, len(words) - 1)]


def word_and_number_from(reader, words, limits_of_words):
    word = word_from(reader, words)
    if word not in limits_of_words:
        return (word, 0)
    limits = limits_of_words[word]
    return (word, reader.number_within(limits[0], limits[1]))


def steps_from(reader):
    step_count = reader.number_within(0, MOST_STEPS)
    return [word_and_number_from(reader, STEP_WORDS, dict(STEP_LIMITS)) for place in range(step_count)]


def relation_from(reader):
    condition = word_and_number_from(reader, CONDITION_WORDS, dict(CONDITION_LIMITS))
    input_turning = steps_from(reader)
    way = word_from(reader, WAY_WORDS)
    return Relation(condition, input_turning, way, steps_from(reader))


# None where the numbers aren't whole a relation.
def relation_of_numbers(numbers):
    reader = NumberReader(numbers)
    try:
        relation = relation_from(reader)
    except NotRelation:
        return None
    return relation if reader.is_at_end() else None


def condition_numbers(condition):
    kind = CONDITION_WORDS.index(condition[0])
    return [kind, condition[1]] if condition[0] in CONDITION_LIMITS else [kind]


def way_numbers(ways):
    return [WAY_WORDS.index(way) for way in ways]


# With how many there are ahead, as a row is told and as lists are answered.
def counted_numbers(numbers):
    return [len(numbers)] + numbers


def outcome_numbers(outcome):
    return [0] if outcome is None else [1] + counted_numbers(outcome)
