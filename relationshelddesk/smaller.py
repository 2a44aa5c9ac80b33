"""Making a breaking row smaller."""

from relationshelddesk.relations import BROKEN, state_at

MOST_TIMES = 60


# A number that isn't 0, nearer to 0: the half is rounded towards 0, so the sign is set aside.
def nearer_numbers(number):
    sign = 1 if number > 0 else -1
    size = abs(number)
    return [0, sign * (size // 2), sign * (size - 1)]


def smaller_rows(row):
    found = [row[:place] + row[place + 1:] for place in range(len(row))]
    for place, number in enumerate(row):
        if number == 0:
            continue
        for nearer in nearer_numbers(number):
            found.append(row[:place] + [nearer] + row[place + 1:])
    return found


# None where it's broken at no smaller row.
def first_broken_row(program, relation, rows):
    for row in rows:
        if state_at(program, relation, row) == BROKEN:
            return row
    return None


def made_smaller(program, relation, row):
    made = row
    for taking in range(MOST_TIMES):
        smaller = first_broken_row(program, relation, smaller_rows(made))
        if smaller is None:
            return made
        made = smaller
    return made
