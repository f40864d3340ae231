"""The number of standings of a kind, from the threads of reading: all of them, then as few as can be."""

from roomleft.threads import are_whole, fed_all, first_threads

REFUSED = -1
WHOLE = -2


def moves_of(node, most):
    """For each set of threads what comes behind a bit 0 and a bit 1; None if there are more sets than most."""
    start = tuple(first_threads(node))
    numbers = {start: 0}
    waiting = [start]
    moves = []
    for threads in waiting:
        row = []
        for bit in "01":
            further = fed_all(list(threads), bit)
            if not further:
                row.append(REFUSED)
            elif are_whole(further):
                row.append(WHOLE)
            else:
                key = tuple(sorted(set(further), key=repr))
                if key not in numbers:
                    numbers[key] = len(numbers)
                    waiting.append(key)
                row.append(numbers[key])
        if len(numbers) > most:
            return None
        moves.append(row)
    return moves


def classes_of(moves):
    """For each number that of its class, of those that go on in the same way: parted further as long as it can be."""
    classes = [0] * len(moves)
    many = 1
    while True:
        signs = {}
        parted = []
        for number, row in enumerate(moves):
            sign = (classes[number],) + tuple(one if one < 0 else classes[one] for one in row)
            parted.append(signs.setdefault(sign, len(signs)))
        if len(signs) == many:
            return parted
        many, classes = len(signs), parted


def standings_of(edition, name, most=3000):
    moves = moves_of(edition.plan.nodes[name], most)
    return None if moves is None else len(set(classes_of(moves)))


class StreamMachine:
    """The standings of a stream as few numbers, that of the empty row being start."""

    def __init__(self, edition):
        moves = moves_of(edition.plan.nodes[edition.root], 3000)
        classes = classes_of(moves)
        self.start = classes[0]
        self.moves = {}
        for number, row in enumerate(moves):
            behind = [None if one == REFUSED else self.start if one == WHOLE else classes[one] for one in row]
            self.moves[classes[number]] = behind

    def behind(self, standing, bits):
        for bit in bits:
            if standing is None:
                return None
            standing = self.moves[standing][int(bit)]
        return standing

    def brings(self, bits):
        found = {self.behind(one, bits) for one in self.moves} - {None}
        return len(found) == 1

    def come_together(self, one, other):
        """Whether some bits lead both to one standing, or are refused behind just one of them."""
        met = {(one, other)}
        waiting = [(one, other)]
        for pair in waiting:
            for bit in (0, 1):
                further = tuple(self.moves[standing][bit] for standing in pair)
                if further == (None, None):
                    continue
                if None in further or further[0] == further[1]:
                    return True
                if further not in met:
                    met.add(further)
                    waiting.append(further)
        return False
