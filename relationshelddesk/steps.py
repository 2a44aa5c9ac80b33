"""Steps on rows, and runs of programs.

A step is a pair of its word and its number (0 where it has none); a program is a list of steps.
"""

MOST_NUMBERS = 40

GREATEST_NUMBER = 1000000


def added(row, number):
    return [value + number for value in row]


def multiplied(row, number):
    return [value * number for value in row]


def rests(row, number):
    return [value % number for value in row]


def without_signs(row, number):
    return [abs(value) for value in row]


def in_order(row, number):
    return sorted(row)


def turned_round(row, number):
    return row[::-1]


def rotated(row, number):
    if not row:
        return []
    first = number % len(row)
    return row[first:] + row[:first]


def taken(row, number):
    return row[:number]


def dropped(row, number):
    return row[number:]


def those_above(row, number):
    return [value for value in row if value > number]


def each_once(row, number):
    met = {}
    for value in row:
        met[value] = True
    return list(met)


def summed(row, number):
    return [sum(row)]


def greatest(row, number):
    return [max(row)] if row else []


def least(row, number):
    return [min(row)] if row else []


def counted(row, number):
    return [len(row)]


def differences(row, number):
    return [second - first for first, second in zip(row, row[1:])]


def running_sums(row, number):
    made = []
    total = 0
    for value in row:
        total += value
        made.append(total)
    return made


def doubled(row, number):
    return row + row


DOINGS = {
    "add": added,
    "times": multiplied,
    "rest": rests,
    "abs": without_signs,
    "sort": in_order,
    "reverse": turned_round,
    "rotate": rotated,
    "take": taken,
    "drop": dropped,
    "above": those_above,
    "once": each_once,
    "sum": summed,
    "greatest": greatest,
    "least": least,
    "count": counted,
    "steps": differences,
    "sums": running_sums,
    "twice": doubled,
}


def is_beyond(row):
    if not row:
        return False
    return len(row) > MOST_NUMBERS or max(row) > GREATEST_NUMBER or min(row) < -GREATEST_NUMBER


# None stands for a run that is beyond: a row can't, as a run may end with no number.
def run(program, row):
    made = list(row)
    for step in program:
        made = DOINGS[step[0]](made, step[1])
        if is_beyond(made):
            return None
    return made
