"""The steps of a pattern's text: which can be done, where the first fault is, and the refusal for it."""

from beadfit.errors import NoPattern

# How many patterns a step takes off the pile; the letters, which take none, are left out.
TAKEN = {".": 0, "*": 1, "+": 2, "/": 2}


# Answers None where the sign is no step at all: nought would let it be done.
def taken_by(sign):
    if "a" <= sign <= "z":
        return 0
    return TAKEN.get(sign)


# Whether a step can be done hangs on the height of the pile alone, so no pattern is made here.
def fault(text):
    height = 0
    for place, sign in enumerate(text):
        taken = taken_by(sign)
        if taken is None or taken > height:
            return place
        # Every step puts just one pattern on, whatever it takes off.
        height = height - taken + 1
    if height == 1:
        return None
    return len(text)


# Asks no string, so that a text can be refused ahead of every string.
def refuse_faulty(text):
    place = fault(text)
    if place is not None:
        raise NoPattern(f"{text!r} writes no pattern: its first fault is at {place}")
