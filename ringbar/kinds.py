"""What counts as a whole number, a tuple, a list and a text."""

# Everywhere the kind is asked before anything else, so that nothing is asked of a thing that may
# not answer. It is compared, because isinstance takes True and False for numbers and believes what
# an object says of its own class; isinstance behind it, because a class may claim to equal another.


def is_whole(thing, least, greatest):
    """Whether thing is a whole number from least to greatest."""
    return type(thing) == int and isinstance(thing, int) and least <= thing <= greatest


def is_tuple(thing, fewest, most):
    """Whether thing is a tuple of fewest to most items."""
    return type(thing) == tuple and isinstance(thing, tuple) and fewest <= len(thing) <= most


def is_list(thing, fewest, most):
    """Whether thing is a list of fewest to most items."""
    return type(thing) == list and isinstance(thing, list) and fewest <= len(thing) <= most


def is_text(thing, fewest, most):
    """Whether thing is a text of fewest to most signs."""
    return type(thing) == str and isinstance(thing, str) and fewest <= len(thing) <= most
