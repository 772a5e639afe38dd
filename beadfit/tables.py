"""Tables made of other tables with equally many rows, without the string."""


# A piece can be cut at several places, so one end may be reached over and over: each is kept once.
def ends_behind(places, table):
    ends = []
    for place in places:
        ends.extend(table[place])
    return sorted(set(ends))


def joined(first, second):
    return [ends_behind(row, second) for row in first]


def either(one, other):
    return [sorted(set(row) | set(beside)) for row, beside in zip(one, other)]


# No piece leads to a lesser place, so from the last place down every row that is needed is done already.
# The row of the place itself holds just its empty piece until then: an empty piece in `told` adds nothing.
def many(told):
    rows = [[place] for place in range(len(told))]
    for place in range(len(told) - 1, -1, -1):
        rows[place] = ends_behind([place] + told[place], rows)
    return rows
