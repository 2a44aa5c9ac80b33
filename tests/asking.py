"""How tests write calls, and how they read what is answered."""

from relationshelddesk.desk import answers

SHOWN = [1]
TABLE = [4]
MUTANTS = [8]
COUNTS = [9]
LEAST = [10]
UNSEEN = [11]
CHAIN = [13]
MATCHED = [14]
STRONGEST = [15]

HUGE = 10 ** 18


def load(text):
    listed = list(text.encode("latin-1"))
    return [0, len(listed)] + listed


def bound(length, first, last):
    return [2, length, first, last]


def held(relation):
    return [3, relation]


def stand(relation):
    return [5, relation]


def cut(relation):
    return [6, relation]


def shrink(relation, *listed):
    return [7, relation, len(listed)] + list(listed)


def show(mutant):
    return [12, mutant]


def group(n):
    return [16, n]


def adopt(mutant):
    return [17, mutant]


def put(*listed):
    return [18, len(listed)] + list(listed)


def drop(relation):
    return [19, relation]


def split(answered):
    found = []
    position = 0
    while position < len(answered):
        start = position + 1
        position = start + answered[position]
        if position > len(answered):
            raise AssertionError("the last answer is shorter than told")
        found.append(answered[start:position])
    return found


def ask(*calls):
    return split(answers([number for call in calls for number in call]))


def last(*calls):
    return ask(*calls)[-1]


def row_call(relation, row):
    return shrink(relation, len(row), *row)


def text_of(answered):
    if answered[0] != len(answered) - 1:
        raise AssertionError("the count of bytes is wrong")
    return bytes(answered[1:]).decode("ascii")


def one_form_of(text):
    return text_of(last(load(text), SHOWN))
