"""What a whole number is."""


def is_whole(thing):
    """Whether the thing is a whole number."""
    # To Python a truth is an int too, so it is asked for by itself.
    return isinstance(thing, int) and not isinstance(thing, bool)
