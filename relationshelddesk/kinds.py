"""The words of steps, conditions and ways to stand, in the order of their numbers."""

STEP_WORDS = (
    "add", "times", "rest", "abs", "sort", "reverse", "rotate", "take", "drop",
    "above", "once", "sum", "greatest", "least", "count", "steps", "sums", "twice",
)

# Least and greatest number of a told step; a step that isn't here has no number.
STEP_LIMITS = {
    "add": (-99, 99),
    "times": (-99, 99),
    "rest": (1, 9),
    "rotate": (0, 9),
    "take": (0, 9),
    "drop": (0, 9),
    "above": (-99, 99),
}

CONDITION_WORDS = ("any", "some", "rising", "plus", "unlike", "atleast")

CONDITION_LIMITS = {"atleast": (0, 9)}

WAY_WORDS = ("equal", "bag", "numbers", "most", "least", "begins", "long")

MOST_STEPS = 8

MOST_RELATIONS = 12
