"""The number of standings of a kind, from the threads of reading: all of them, then as few as can be."""

from roomleft.threads import are_whole, fed_all, first_threads

REFUSED = -1
WHOLE = -2


def moves_of(node, most):
    """For each set of threads what comes behind a bit 0 and a bit 1; None if there are more sets than most."""
    start = tuple(first_threads(node))
    numbers = {start: 0}
    waiting = [start]
    moves = []
    for threads in waiting:
        row = []
        for bit in "01":
            further = fed_all(list(threads), bit)
            if not further:
                row.append(REFUSED)
            elif are_whole(further):
                row.append(WHOLE)
            else:
                key = tuple(sorted(set(further), key=repr))
                if key not in numbers:
                    numbers[key] = len(numbers)
                    waiting.append(key)
                row.append(numbers[key])
        if len(numbers) > most:
            return None
        moves.append(row)
    return moves


def fewest(moves):
    """The number of classes of what goes on in unlike ways, parted further as long as it can be."""
    classes = [0] * len(moves)
    many = 1
    while True:
        signs = {}
        parted = []
        for number, row in enumerate(moves):
            sign = (classes[number],) + tuple(one if one < 0 else classes[one] for one in row)
            parted.append(signs.setdefault(sign, len(signs)))
        if len(signs) == many:
            return many
        many, classes = len(signs), parted


def standings_of(edition, name, most=3000):
    moves = moves_of(edition.plan.nodes[name], most)
    return None if moves is None else fewest(moves)
