"""What counts as an integer, a name, bits or a word."""


def is_int(thing):
    return isinstance(thing, int) and not isinstance(thing, bool)


def is_int_within(thing, least, most):
    return is_int(thing) and least <= thing <= most


def is_name(thing):
    if not isinstance(thing, str) or not 1 <= len(thing) <= 8:
        return False
    return all(["a" <= letter <= "z" for letter in thing])


def is_bits(thing):
    return isinstance(thing, str) and thing.strip("01") == ""


def is_one_bit(thing):
    return is_bits(thing) and len(thing) == 1


def is_word(thing):
    """Whether this can be the word of a way, a door or a room."""
    return is_bits(thing) and 1 <= len(thing) <= 8
