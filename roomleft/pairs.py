"""What two editions tell of the same bits, bit by bit.

A PAIR is one way in which the writer and one in which the reader can take the bits so far, as
long as they tell the same events, but for those that the reader steps over: a tuple (thread,
thread, whether such a one was stepped over). A pair of which this holds no longer is left out.
"""

from roomleft.nodes import BodyNode
from roomleft.threads import fed, first_threads, path_of


class Pairs:
    """Makes pairs, and the keys by which those are found that go on in the same way."""

    def __init__(self, writer, reader):
        self.writer = writer.plan.nodes[writer.root]
        self.reader = reader.plan.nodes[reader.root]
        self.have_equal_counts = writer.count == reader.count

    def first(self):
        return even_pairs(first_threads(self.writer), first_threads(self.reader), False)

    def further(self, pairs, bit):
        """The pairs behind one more bit."""
        found = []
        for writer, reader, is_stepped in pairs:
            writers, told = fed(writer, bit)
            readers, heard = fed(reader, bit)
            if told == heard:
                found.extend(even_pairs(writers, readers, is_stepped))
            elif is_stepping_over(reader):
                found.extend(even_pairs(writers, readers, True))
        return found

    def key(self, pairs):
        return tuple([self.key_of(pair) for pair in pairs])

    def key_of(self, pair):
        """Pairs with equal keys tell the same of all bits that follow.

        With equal counts, both leave and enter all parts, ways and items at the same bits, or
        tell unlike events soon after: so the names that lie around both do not matter, nor how
        many there are, but only which frames lie at one depth. With unlike counts the writer can
        be ahead of a reader that steps over a body, and come to the same names again.
        """
        (left, stack), (other_left, other_stack), is_stepped = pair
        frames = outline(stack)
        other_frames = outline(other_stack)
        depths = sorted({frame[3] for frame in frames + other_frames})
        if self.have_equal_counts:
            ranks = {depth: rank for rank, depth in enumerate(depths)}
            names = ()
        else:
            ranks = {depth: depth - depths[0] for depth in depths}
            # What lies below all frames is left at the end alone.
            names = (current_path(stack)[depths[0]:], current_path(other_stack)[depths[0]:])
        return left, ranked(frames, ranks), other_left, ranked(other_frames, ranks), names, is_stepped


def even_pairs(writers, readers, is_stepped):
    """The pairs of threads that can still tell the same.

    Paths change at events alone: where the next one is not stepped over, both must be on one path.
    """
    found = []
    for writer in writers:
        for reader in readers:
            if is_stepping_over(reader) or current_path(writer[1]) == current_path(reader[1]):
                found.append((writer, reader, is_stepped))
    return found


def is_stepping_over(thread):
    """Whether the thread takes the next bit for one of an unknown body or of a rest."""
    if thread[1] == ():
        return False
    node, a, _ = thread[1][-1]
    return isinstance(node, BodyNode) and node.is_stepping_over(a)


def current_path(stack):
    """The path of an event at the next bit."""
    return path_of(stack[:-1])


def outline(stack):
    """The frames that go on behind what is above them, each with the length of the path at which it lies."""
    frames = []
    depth = 0
    for node, a, b in stack[:-1]:
        if not node.is_spent(a, b):
            frames.append((node, a, b, depth))
        depth += len(node.piece(a, b))
    return frames + [(node, a, b, depth) for node, a, b in stack[-1:]]


def ranked(frames, ranks):
    return tuple([(node, a, b, ranks[depth]) for node, a, b, depth in frames])
