"""Weights: how much of all rows of bits the messages of a kind take up; and tossed bits."""

from roomleft.editions import kind_name
from roomleft.quotients import NONE, WHOLE, added, divided, halved, multiplied, taken_off
from roomleft.states import own_states, read_states

TWO = (2, 1)


def weight(edition, kind=None):
    """The sum of 2 to the power of minus the length over all messages that are read."""
    name = kind_name(edition, kind)
    grammar = read_states(edition).grammar
    return weight_of(grammar, grammar.line_of_name(name))


def own_weight(edition, kind=None):
    """The same sum over the own messages."""
    name = kind_name(edition, kind)
    grammar = own_states(edition).grammar
    return weight_of(grammar, grammar.line_of_name(name))


def is_complete(edition, kind=None):
    """Whether reading refuses no bit anywhere."""
    name = kind_name(edition, kind)
    grammar = read_states(edition).grammar
    return grammar.refusal_of(grammar.line_of_name(name)) is None


def tossed(edition, kind=None):
    """The chance that a tossed bit is refused, and the mean number of the bits that are tossed."""
    name = kind_name(edition, kind)
    grammar = read_states(edition).grammar
    line = grammar.line_of_name(name)
    weights = weights_of(grammar, line)
    means = {}
    for symbol in grammar.reached(line):
        means[symbol] = mean_of_symbol(grammar, symbol, weights, means)
    return taken_off(WHOLE, weight_of_line(line, weights)), mean_of_line(line, weights, means)


def weight_of(grammar, line):
    return weight_of_line(line, weights_of(grammar, line))


def weights_of(grammar, line):
    """A dict of all symbols of a line to their weights."""
    weights = {}
    # A rule has no greater symbols than its own, so these are known by then.
    for symbol in grammar.reached(line):
        weights[symbol] = weight_of_symbol(grammar, symbol, weights)
    return weights


def weight_of_line(line, weights):
    return multiplied([weights[symbol] for symbol in line])


def weight_of_symbol(grammar, symbol, weights):
    item = grammar.item_of(symbol)
    if item is not None:
        return divided(WHOLE, taken_off(TWO, weight_of_line(item, weights)))
    total = NONE
    for side in grammar.sides(symbol):
        total = added(total, weight_of_line(side, weights))
    return halved(total)


def mean_of_line(line, weights, means):
    """The mean number of tossed bits: what stands behind a symbol is come to with the symbol's weight."""
    mean = NONE
    for symbol in line[::-1]:
        mean = added(means[symbol], multiplied([weights[symbol], mean]))
    return mean


def mean_of_symbol(grammar, symbol, weights, means):
    item = grammar.item_of(symbol)
    if item is not None:
        # The mean m is 1 and half of what the item takes and, with the item's weight, of m itself.
        left = taken_off(TWO, weight_of_line(item, weights))
        return divided(added(TWO, mean_of_line(item, weights, means)), left)
    total = NONE
    for side in grammar.sides(symbol):
        total = added(total, mean_of_line(side, weights, means))
    return added(WHOLE, halved(total))
