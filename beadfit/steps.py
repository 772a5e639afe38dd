"""The steps of a pattern's text: which can be done, and where the first fault is."""

# How many patterns a step takes off the pile; the letters, which take none, are left out.
TAKEN = {".": 0, "*": 1, "+": 2, "/": 2}


# Answers None where the sign is no step at all: nought would let it be done.
def taken_by(sign):
    if "a" <= sign <= "z":
        return 0
    return TAKEN.get(sign)


# Whether a step can be done hangs on the height of the pile alone, so no pattern is made here.
def fault(text):
    height = 0
    for place, sign in enumerate(text):
        taken = taken_by(sign)
        if taken is None or taken > height:
            return place
        # Every step puts just one pattern on, whatever it takes off.
        height = height - taken + 1
    if height == 1:
        return None
    return len(text)
