"""The refusals of the program."""


# Stands above every other refusal, so that one `except` can take them all.
class BeadError(ValueError):
    pass


class NoPattern(BeadError):
    pass
