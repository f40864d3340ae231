"""How a Number writes its integers."""


def how_many_integers(number):
    return number.high - number.low + 1


def tight_code(many):
    """The pair (b, u) of a tight number of so many integers: the first u of them have b bits, the others one more."""
    size = many.bit_length() - 1
    return size, (1 << (size + 1)) - many


def bits_of(number, size):
    """The bits of this length that write a number in base two."""
    return f"{number:b}".zfill(size)


def number_bits(kind, integer):
    """The bits with which a Number writes one of its integers."""
    number = integer - kind.low
    if kind.width is not None:
        return bits_of(number, kind.width)
    size, short = tight_code(how_many_integers(kind))
    if number < short:
        return bits_of(number, size)
    return bits_of(number + short, size + 1)
