"""What a pattern tells of a string: whether it fits, its longest beginning that fits, and the finds in it."""

from beadfit.fitting import table_of
from beadfit.steps import refuse_faulty


def fits(text, beads):
    return len(beads) in table_of(text, beads)[0]


# Refuses here since the function that it gives back would do so only when it is called.
def matcher(text):
    refuse_faulty(text)

    def fits_pattern(beads):
        return fits(text, beads)

    return fits_pattern


def longest(text, beads):
    lengths = table_of(text, beads)[0]
    return lengths[-1] if lengths else None


# One table serves for every place, since whether a piece fits hangs on its own beads alone.
def finds(text, beads):
    table = table_of(text, beads)
    found = []
    place = 0
    while place < len(beads):
        # The place itself stands for no find: an empty piece is none.
        end = max([place] + table[place])
        if end > place:
            found.append((place, end))
            place = end
        else:
            place = place + 1
    return found
