"""What counts as a whole number."""


def is_whole(thing, least, greatest):
    """Whether thing is a whole number from least to greatest."""
    # The kind is compared, not asked by isinstance: that would take True and False
    # for numbers, and would believe what an object says of its own class.
    return type(thing) == int and least <= thing <= greatest
