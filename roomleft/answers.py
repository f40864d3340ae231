"""What a desk answers to the lines that change nothing: each function takes editions, and the words behind them."""

from roomleft.free import least_free
from roomleft.judging import judge, sort_of
from roomleft.numbering import number_of
from roomleft.reading import is_own, read
from roomleft.sizes import greatest_size, least_size
from roomleft.tables import table
from roomleft.valuetexts import read_value, value_text
from roomleft.weights import weight
from roomleft.writing import written


def text_or_none(thing):
    return "none" if thing is None else str(thing)


def yes_or_no(flag):
    return "yes" if flag else "no"


def write_answer(editions, words):
    return written(editions[0], read_value(editions[0], words[0]))


def read_answer(editions, words):
    return value_text(read(editions[0], words[0]))


def own_answer(editions, words):
    return yes_or_no(is_own(editions[0], words[0]))


def number_answer(editions, words):
    return str(number_of(editions[0], words[0]))


def free_answer(editions, words):
    return text_or_none(least_free(editions[0], words[0]))


def weight_answer(editions, words):
    top, bottom = weight(editions[0], words[0])
    return f"{top}/{bottom}"


def sizes_answer(editions, words):
    least = least_size(editions[0], words[0])
    return f"{least} {text_or_none(greatest_size(editions[0], words[0]))}"


def judge_answer(editions, words):
    verdict = judge(editions[0], editions[1])
    told = [
        ("refused", verdict.refused), ("short", verdict.short), ("in step", verdict.in_step),
        ("stepped", verdict.stepped), ("other", verdict.other),
    ]
    return "; ".join([f"{sort} {text_or_none(bits)}" for sort, bits in told])


def sort_answer(editions, words):
    return sort_of(editions[0], editions[1], words[0])


def reads_answer(editions, words):
    return yes_or_no(table(editions[0], editions[1]) is not None)


ANSWERS = {
    "write": write_answer,
    "read": read_answer,
    "own": own_answer,
    "number": number_answer,
    "free": free_answer,
    "weight": weight_answer,
    "sizes": sizes_answer,
    "judge": judge_answer,
    "sort": sort_answer,
    "reads": reads_answer,
}
