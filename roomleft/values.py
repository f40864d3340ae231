"""Whether something is the value of a message."""

from roomleft.errors import BadValue
from roomleft.writing import written


def is_value(edition, thing, kind=None):
    """Whether something is a value of a message of this kind."""
    try:
        written(edition, thing, kind)
    except BadValue:
        return False
    return True
