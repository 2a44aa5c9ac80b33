"""The one form of a program with its relations."""

from relationshelddesk.kinds import CONDITION_LIMITS, STEP_LIMITS


def word_text(word, number, has_number):
    return f"{word} {number}" if has_number else word


def step_text(step):
    return word_text(step[0], step[1], step[0] in STEP_LIMITS)


def condition_text(condition):
    return word_text(condition[0], condition[1], condition[0] in CONDITION_LIMITS)


def steps_text(steps):
    return " ".join(["("] + [step_text(step) for step in steps] + [")"])


def relation_line(relation):
    condition = condition_text(relation.condition)
    before = steps_text(relation.input_turning)
    behind = steps_text(relation.output_turning)
    way = relation.way
    return f"relation {condition} input {before} output {way} {behind};\n"


def one_form(program, relations):
    steps = steps_text(program)
    return "".join([f"program {steps};\n"] + [relation_line(relation) for relation in relations])
