"""What follows from what: of ways to stand, of conditions, of relations."""

FOLLOWING = {
    "equal": ("equal", "bag", "numbers", "most", "least", "begins", "long"),
    "bag": ("bag", "numbers", "long"),
    "numbers": ("numbers",),
    "most": ("most", "long"),
    "least": ("least", "long"),
    "begins": ("begins",),
    "long": ("long",),
}

# Conditions that speak of how many numbers a row has, and of nothing else.
COUNT_WORDS = ("any", "some", "atleast")


def way_follows(way, other):
    return way in FOLLOWING[other]


# some says what 1 or more says; where nothing is said of how many, it's 0 or more.
def fewest_numbers(condition):
    if condition[0] == "atleast":
        return condition[1]
    return 1 if condition[0] == "some" else 0


def is_no_wider(condition, other):
    if condition == other:
        return True
    return other[0] in COUNT_WORDS and fewest_numbers(condition) >= fewest_numbers(other)


def relation_follows(relation, other):
    if relation.input_turning != other.input_turning or relation.output_turning != other.output_turning:
        return False
    return is_no_wider(relation.condition, other.condition) and way_follows(relation.way, other.way)


# The places of those that follow from none of the others; of two that follow from each other
# the first one counts.
def strongest_places(things, follows):
    found = []
    for place, thing in enumerate(things):
        before = [other for other in things[:place] if follows(thing, other)]
        behind = [other for other in things[place + 1:] if follows(thing, other) and not follows(other, thing)]
        if not before and not behind:
            found.append(place)
    return found
