"""The table that one step of a pattern's text makes in a string."""

from beadfit.tables import either, joined, many


# Only pieces of one bead fit a letter or any bead, so no piece begins behind the last bead.
def bead_table(sign, beads):
    rows = [[place + 1] if sign == "." or sign == bead else [] for place, bead in enumerate(beads)]
    return rows + [[]]


# `taken` holds the tables that the step takes off the pile, the lower one first.
def table_by(sign, taken, beads):
    if sign == "+":
        return joined(taken[0], taken[1])
    if sign == "/":
        return either(taken[0], taken[1])
    if sign == "*":
        return many(taken[0])
    return bead_table(sign, beads)
