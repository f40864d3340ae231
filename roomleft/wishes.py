"""Words for the further ways of a choice that are still to come."""

from roomleft.basics import is_int, is_word
from roomleft.errors import BadWeights
from roomleft.free import words_beside, words_of_choice
from roomleft.kinds import are_apart

MOST_WAYS = 6
LONGEST_WORD = 8


def cheapest_words(edition, name, weights):
    """The pair (sum, words) of the least sum of weight times length, or None if there are no such words."""
    rows = words_beside(words_of_choice(edition, name))
    if not are_weights(weights):
        raise BadWeights()
    # The greater a weight, the shorter its word can be: otherwise the two words would better be exchanged.
    order = sorted(list(range(len(weights))), key=lambda at: -weights[at])
    best = None
    for lengths in ascending_lengths(len(weights)):
        if have_place(rows, lengths):
            total = sum([weights[at] * length for at, length in zip(order, lengths)])
            if best is None or total < best[0]:
                best = total, lengths
    if best is None:
        return None
    words = {at: word for at, word in zip(order, words_of_lengths(rows, best[1]))}
    return best[0], [words[at] for at in range(len(weights))]


def are_weights(thing):
    if not isinstance(thing, list) or not 1 <= len(thing) <= MOST_WAYS:
        return False
    return all([is_int(weight) and weight >= 0 for weight in thing])


def ascending_lengths(many):
    """All lists of so many lengths of words in which none is smaller than the one ahead of it."""
    lists = [[]]
    for _ in range(many):
        lists = [one + [size] for one in lists for size in range(max(one, default=1), LONGEST_WORD + 1)]
    return lists


def have_place(rows, lengths):
    """Whether words of these lengths, ascending, can begin with the rows so that none begins another one."""
    for at, length in enumerate(lengths):
        # Counted in words of this length, all rows that are not longer can be used up to the last bit.
        places = sum([1 << (length - len(row)) for row in rows if len(row) <= length])
        if sum([1 << (length - size) for size in lengths[:at + 1]]) > places:
            return False
    return True


def words_of_lengths(rows, lengths):
    """Words of these lengths, ascending, each in the longest row that it can begin with."""
    free = list(rows)
    words = []
    for length in lengths:
        row = max([one for one in free if len(one) <= length], key=len)
        free.remove(row)
        words.append(row + "0" * (length - len(row)))
        free.extend([row + "0" * many + "1" for many in range(length - len(row))])
    return words


def fits(edition, name, words):
    """Whether something is a list of words that can be added to those of a choice."""
    there = words_of_choice(edition, name)
    if not isinstance(words, list) or not 1 <= len(words) <= MOST_WAYS:
        return False
    return all([is_word(word) for word in words]) and are_apart(there + words)
