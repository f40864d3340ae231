"""Shelves: rows of editions, and which of them read each other."""

from roomleft.basics import is_int_within
from roomleft.errors import BadNumber, NoUndo, TooMany
from roomleft.steps import taken
from roomleft.tables import table

MOST_EDITIONS = 12


class Shelf:
    """A row of editions."""

    def __init__(self, edition):
        self._editions = [edition]

    def take(self, step):
        """Adds the edition that a step makes of the last one."""
        self.put(taken(self._editions[-1], step))

    def put(self, edition):
        """Adds an edition."""
        if len(self._editions) == MOST_EDITIONS:
            raise TooMany(MOST_EDITIONS)
        self._editions.append(edition)

    def editions(self):
        return list(self._editions)

    def __len__(self):
        return len(self._editions)

    def __getitem__(self, number):
        check_number(self._editions, number, "number")
        return self._editions[number]

    def __iter__(self):
        raise TypeError("a shelf is not iterated over, but its list of editions is")

    def back(self):
        """Takes the last edition off."""
        if len(self._editions) == 1:
            raise NoUndo()
        self._editions.pop()

    def reads(self, writer, reader):
        """Whether there is a table for two editions by their numbers."""
        check_number(self._editions, writer, "writer")
        check_number(self._editions, reader, "reader")
        return self._has_table(writer, reader)

    def unread(self):
        """The pairs of numbers of a writer and a reader without a table, ascending."""
        numbers = list(range(len(self._editions)))
        pairs = [(writer, reader) for writer in numbers for reader in numbers if writer != reader]
        return [pair for pair in pairs if not self._has_table(pair[0], pair[1])]

    def together(self):
        """The longest list of numbers of editions that all read each other both ways, of several the least one."""
        lists = [[]]
        for number, friends in enumerate(self._friends()):
            longer = [one + [number] for one in lists if all([other in friends for other in one])]
            lists.extend(longer)
        most = max([len(one) for one in lists])
        return min([one for one in lists if len(one) == most])

    def road(self, first, last):
        """The shortest list of numbers from first to last whose neighbors read each other both ways, or None."""
        check_number(self._editions, first, "first")
        check_number(self._editions, last, "last")
        return least_road(self._friends(), first, last)

    def _has_table(self, writer, reader):
        return table(self._editions[writer], self._editions[reader]) is not None

    def _friends(self):
        """For each edition the numbers of the other ones that it reads and that read it, ascending."""
        unread = self.unread()
        friends = []
        for one in range(len(self._editions)):
            others = [other for other in range(len(self._editions)) if other != one]
            friends.append([other for other in others if (one, other) not in unread and (other, one) not in unread])
        return friends


def check_number(editions, number, part):
    """Raises BadNumber with this word unless it is the number of an edition."""
    if not is_int_within(number, 0, len(editions) - 1):
        raise BadNumber(part)


def least_road(friends, first, last):
    """The shortest list of numbers from first to last with friends as neighbors, of several the least one, or None."""
    roads = [[first]]
    met = {first: True}
    at = 0
    # Roads of one length stand in ascending order, so the first one to a number is the least one.
    while at < len(roads):
        road = roads[at]
        if road[-1] == last:
            return road
        for number in friends[road[-1]]:
            if number not in met:
                met[number] = True
                roads.append(road + [number])
        at += 1
    return None
