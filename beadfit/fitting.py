"""The table of a pattern in a string."""

from beadfit.makers import table_by
from beadfit.steps import refuse_faulty, taken_by


# The pile holds the table of each pattern in the place of the pattern itself: so no pattern within a pattern
# has to be gone into, however deep it lies.
def table_of(text, beads):
    refuse_faulty(text)
    pile = []
    for sign in text:
        left = len(pile) - taken_by(sign)
        pile = pile[:left] + [table_by(sign, pile[left:], beads)]
    return pile[0]
