"""Reading whole messages."""

from roomleft.basics import is_bits
from roomleft.editions import kind_name
from roomleft.errors import BadBits, Left, NoBits, TooFew
from roomleft.parsing import Parse
from roomleft.threads import are_whole, fed_all, first_threads, least_lack


def read(edition, bits, kind=None):
    """The value of a message."""
    value, used = read_first(edition, bits, kind)
    if used < len(bits):
        raise Left(used)
    return value


def read_first(edition, bits, kind=None):
    """The pair (value, used) of the message with which the bits begin and the number of its bits."""
    name = kind_name(edition, kind)
    if not is_bits(bits):
        raise NoBits()
    used = first_end(edition.plan.nodes[name], bits)
    parse = Parse(edition.plan, bits)
    return parse.value(edition.plan.named[name]), used


def is_own(edition, bits, kind=None):
    """Whether something is the bits of an own message."""
    name = kind_name(edition, kind)
    if not is_bits(bits):
        return False
    try:
        used = first_end(edition.plan.nodes[name], bits)
    except (BadBits, TooFew):
        return False
    parse = Parse(edition.plan, bits)
    parse.value(edition.plan.named[name])
    return parse.own and used == len(bits)


def passed_bits(edition, bits):
    """The numbers of the bits of a message of the root kind that reading steps over, ascending."""
    parse = Parse(edition.plan, bits)
    parse.value(edition.plan.named[edition.root])
    return parse.passed


def first_end(node, bits):
    """The number of bits of the message with which the bits begin."""
    threads = first_threads(node)
    for at, bit in enumerate(bits):
        threads = fed_all(threads, bit)
        if threads == []:
            raise BadBits(at)
        if are_whole(threads):
            return at + 1
    raise TooFew(least_lack(threads))
