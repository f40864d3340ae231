"""Threads behind further bits: which of them can go on, what they still need, and what they tell."""

from roomleft.nodes import NEVER, NO_BODY, BodyNode


def first_threads(node):
    return node.begin(NO_BODY, ())


def lack_of(thread):
    """The least number of bits until the thread has a whole message, or NEVER."""
    left, stack = thread
    total = 0
    due = 0
    for node, a, b in stack[::-1]:
        if isinstance(node, BodyNode) and node.is_within(a):
            if due > left:
                return NEVER
            # A body always ends with its own count, however early the message in it does.
            total += left
            due = 0
            left = b
        else:
            owed = node.owed(a, b)
            if owed == NEVER:
                return NEVER
            due += owed
    return total + due


def fed(thread, bit):
    """The pair of the threads behind one more bit that can go on, and of the event at it, or None."""
    left, stack = thread
    if stack == ():
        return [], None
    node, a, b = stack[-1]
    below = stack[:-1]
    threads, told = node.feed(left - 1 if left > 0 else left, below, a, b, bit)
    live = [further for further in threads if lack_of(further) != NEVER]
    if told is None:
        return live, None
    return live, (path_of(below), told[0], told[1])


def path_of(stack):
    names = []
    for node, a, b in stack:
        names.extend(node.piece(a, b))
    return tuple(names)


def fed_all(threads, bit):
    further = []
    for thread in threads:
        further.extend(fed(thread, bit)[0])
    return further


def are_whole(threads):
    """Whether a message ends here: then no other thread can be left."""
    return any([stack == () for _, stack in threads])


def least_lack(threads):
    return min([lack_of(thread) for thread in threads])


def refuse(threads, bits):
    """Whether no message behind these threads begins with the bits, and none is a beginning of them."""
    for bit in bits:
        threads = fed_all(threads, bit)
        if threads == []:
            return True
        if are_whole(threads):
            return False
    return False
