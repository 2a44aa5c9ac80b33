"""Bounds: the length and two numbers that tell the inputs."""

LONGEST_INPUT = 8

GREATEST_OF_INPUT = 99

MOST_INPUTS = 1500


def input_count(bound):
    width = bound[2] - bound[1] + 1
    total = 0
    rows_as_long = 1
    for length in range(bound[0] + 1):
        total += rows_as_long
        rows_as_long *= width
    return total


# The numbers may be huge, so their limits are looked at ahead of counting.
def is_bound(numbers):
    if not 0 <= numbers[0] <= LONGEST_INPUT:
        return False
    if not -GREATEST_OF_INPUT <= numbers[1] <= numbers[2] <= GREATEST_OF_INPUT:
        return False
    return input_count(numbers) <= MOST_INPUTS


def longer_by_one(rows, bound):
    made = []
    for row in rows:
        for number in range(bound[1], bound[2] + 1):
            made.append(row + [number])
    return made


# The inputs, each at its number.
def inputs_of(bound):
    longest = [[]]
    found = [[]]
    for length in range(bound[0]):
        longest = longer_by_one(longest, bound)
        found.extend(longest)
    return found


# A row as numbers: how many, then they.
def is_input_row(numbers):
    if not numbers or numbers[0] != len(numbers) - 1 or numbers[0] > LONGEST_INPUT:
        return False
    return all([-GREATEST_OF_INPUT <= number <= GREATEST_OF_INPUT for number in numbers[1:]])
