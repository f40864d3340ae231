"""Free words: bits with which no message begins, and that begin with none."""

from roomleft.basics import is_bits, is_int_within
from roomleft.editions import kind_name
from roomleft.errors import BadNumber, NoBits, NoKind, TooMany
from roomleft.kinds import Choice, Row
from roomleft.states import END, REFUSED, read_states, start_of

MOST_WORDS = 2000


def is_free(edition, bits, kind=None):
    """Whether bits are free for a kind."""
    return refused_bit(edition, bits, kind) is not None


def is_least_free(edition, bits, kind=None):
    """Whether bits are free for a kind and no shorter beginning of them is."""
    return refused_bit(edition, bits, kind) == len(bits) - 1


def refused_bit(edition, bits, kind):
    """The number of the first bit that reading refuses; None if a message comes first, or can still come."""
    name = kind_name(edition, kind)
    if not is_bits(bits) or bits == "":
        raise NoBits()
    states = read_states(edition)
    state = start_of(states, name)
    for at, bit in enumerate(bits):
        if state == END:
            return None
        state = states.move(state, int(bit))
        if state == REFUSED:
            return at
    return None


def least_free(edition, kind=None):
    """The least free word, or None."""
    states = read_states(edition)
    state = start_of(states, kind_name(edition, kind))
    if states.refusal(state) is None:
        return None
    word = ""
    while state != REFUSED:
        bit = nearer_bit(states, state)
        word += str(bit)
        state = states.move(state, bit)
    return word


def nearer_bit(states, state):
    """The least bit of those that lead to a refused bit as soon as can be."""
    due = states.refusal(state)
    zero = states.move(state, 0)
    if due == 1:
        return 0 if zero == REFUSED else 1
    return 0 if states.refusal(zero) == due - 1 else 1


def free_words(edition, most, kind=None):
    """The list of the least free words with at most so many bits, ascending."""
    name = kind_name(edition, kind)
    check_most(most)
    states = read_states(edition)
    return words_from(states, start_of(states, name), most)


def check_most(most):
    if not is_int_within(most, 0, 16):
        raise BadNumber("most")


def words_from(states, start, most):
    """The least free words of what a state stands for."""
    words = []
    level = [("", start)]
    for left in range(most, 0, -1):
        longer = []
        for word, state in level:
            for bit in (0, 1):
                further = states.move(state, bit)
                if further == REFUSED:
                    words.append(word + str(bit))
                elif leads_on(states, further, left - 1):
                    longer.append((word + str(bit), further))
        # Each row that is followed further begins at least one word that is still to come.
        if len(words) + len(longer) > MOST_WORDS:
            raise TooMany(MOST_WORDS)
        level = longer
    return words


def leads_on(states, state, most):
    """Whether a bit can be refused within so many bits from a state."""
    due = states.refusal(state)
    return due is not None and due <= most


def room_words(edition, name, index, most):
    """The list of the least words of a further room ahead of a part or room of a row, ascending."""
    kind = kind_under(edition, name)
    if not isinstance(kind, Row):
        raise NoKind()
    if not is_int_within(index, 0, len(kind.parts) - 1):
        raise BadNumber("index")
    check_most(most)
    states = read_states(edition)
    return words_from(states, start_of_tail(states, name, index), most)


def start_of_tail(states, name, index):
    """The state ahead of all parts and rooms of a row from an index on."""
    states.grammar.line_of_name(name)
    return states.start(states.grammar.tails[name][index])


def way_words(edition, name, most):
    """The list of the least words that can be put to those of a choice, ascending."""
    words = words_of_choice(edition, name)
    check_most(most)
    return [word for word in words_beside(words) if len(word) <= most]


def words_of_choice(edition, name):
    kind = kind_under(edition, name)
    if not isinstance(kind, Choice):
        raise NoKind()
    return [way.word for way in kind.ways]


def words_beside(words):
    """The least rows of bits that neither begin one of the words nor begin with one, ascending."""
    begun = [""]
    beside = []
    while begun != []:
        longer = [row + bit for row in begun for bit in "01" if row not in words]
        begun = [row for row in longer if any([word.startswith(row) for word in words])]
        beside.extend([row for row in longer if row not in begun])
    return beside


def kind_under(edition, name):
    """The kind of the edition with a name, or None; the name may be anything."""
    return edition.plan.named.get(name) if isinstance(name, str) else None
