"""What the files of the package check alike."""


def is_whole(thing, least, most):
    """Tell whether a thing is a whole number from least to most."""
    # Python counts True and False among the integers, the document doesn't.
    if isinstance(thing, bool) or not isinstance(thing, int):
        return False
    return least <= thing <= most
