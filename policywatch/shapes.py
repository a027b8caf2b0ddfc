"""The shapes of answers that several calls share."""


def counted(found):
    """How many there are, then these."""
    return [len(found)] + found
