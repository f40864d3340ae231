import random
import re
import unittest

from roomleft.editions import Edition
from roomleft.errors import (
    BadEdition, BadKind, BadText, LongBody, MissingKind, RingOfCalls, RoomError, RoomTaken,
)
from roomleft.kinds import Bits, Call, Choice, Door, Items, Nothing, Number, Part, Room, Row, Way
from roomleft.texts import edition_text, read_edition
from tests.lists import BIT, THREE, ErrorsCase, random_editions, some_editions
from tests.strange import strange_things

INTEGER = r"(0|-?[1-9][0-9]{0,59})"
NAME = r"([a-z]{1,8})"
SIMPLE = rf"(?:number {INTEGER} {INTEGER}(?: {INTEGER})?|bits {INTEGER}|call {NAME})"
KIND = rf"(?:nothing|{SIMPLE}|items(?: {INTEGER})? \[{SIMPLE}\])"
INNER = re.compile(r"(?:(?P<word>[01]+)(?P<sign>[:?]))?(?P<name>[a-z]{1,8})(?:\[(?P<kind>.*)\])?", re.DOTALL)


def kind_of(text):
    """The kind with this text, made in another way than the package does; None if there is none."""
    if not re.fullmatch(KIND, text):
        return None
    if text == "nothing":
        return Nothing()
    if text.startswith("items"):
        head, item = text[:-1].split(" [", 1)
        return Items(kind_of(item), *[int(word) for word in head.split(" ")[1:]])
    word, *things = text.split(" ")
    if word == "call":
        return Call(things[0])
    return (Number if word == "number" else Bits)(*[int(thing) for thing in things])


def inner_of(text, is_row):
    found = INNER.fullmatch(text)
    if not found:
        return None
    word, sign, name, inside = found.group("word", "sign", "name", "kind")
    kind = None if inside is None else kind_of(inside)
    if inside is not None and kind is None:
        return None
    if is_row:
        if sign == ":" or (sign is None and inside is None):
            return None
        return Part(name, kind) if sign is None else Room(word, name, kind)
    if sign is None or (sign == ":" and inside is None):
        return None
    return (Way if sign == ":" else Door)(word, name, kind)


def split_outside(text):
    """The words with a blank between two that stand in no brackets."""
    words = [""]
    depth = 0
    for letter in text:
        depth += (letter == "[") - (letter == "]")
        if letter == " " and depth == 0:
            words.append("")
        else:
            words[-1] += letter
    return words


def named_of(text):
    """The name and the kind of a line, or None."""
    found = re.fullmatch(rf"{NAME} = (.*)", text, re.DOTALL)
    if not found:
        return None
    name, text = found.groups()
    word = text.split(" ")[0]
    if word not in ("choice", "row"):
        kind = kind_of(text)
        return None if kind is None or isinstance(kind, Nothing) else (name, kind)
    inner = [inner_of(one, word == "row") for one in split_outside(text)[1:]]
    if None in inner:
        return None
    return name, (Row if word == "row" else Choice)(inner)


def wrong_line(text):
    """The number of the first line that is wrong, or None."""
    lines = text.split("\n")
    if not re.fullmatch(rf"edition {NAME} {INTEGER}", lines[0]):
        return 0
    last = ""
    for number, line in enumerate(lines[1:], 1):
        try:
            named = named_of(line)
        except BadKind:
            return number
        if named is None or named[0] <= last:
            return number
        last = named[0]
    return None


class EditionTextTest(unittest.TestCase):
    def test_each_form(self):
        great = 10 ** 59
        kinds = {
            "a": Number(0, 1), "b": Number(-5, -1, 3), "c": Number(-great, 1 - great), "d": Number(great, great + 2, 60), "e": Bits(16),
            "f": Items(Number(0, 2)), "g": Items(Number(-1, 0, 1), 3), "h": Items(Bits(2), 1), "i": Items(Call("a")), "j": Call("abcdefgh"),
            "abcdefgh": Choice((
                Way("0", "x", Nothing()), Way("100", "y", Items(Bits(1), 2)), Way("1010", "z", Number(1, 2, 4)),
                Door("1011", "u", None), Door("1100", "v", Nothing()), Door("1101", "w", Call("k")))),
            "k": Row([Part("p", THREE)]),
            "l": Row([Room("110", "r", None), Room("1110", "s", BIT), Part("p", Call("k")), Part("q", Items(BIT))]),
        }
        one = Edition(kinds, "l", 5)
        text = "\n".join([
            "edition l 5",
            "a = number 0 1",
            "abcdefgh = choice 0:x[nothing] 100:y[items 2 [bits 1]] 1010:z[number 1 2 4] 1011?u 1100?v[nothing] 1101?w[call k]",
            "b = number -5 -1 3",
            f"c = number -{great} -{great - 1}",
            f"d = number {great} {great + 2} 60",
            "e = bits 16",
            "f = items [number 0 2]",
            "g = items 3 [number -1 0 1]",
            "h = items 1 [bits 2]",
            "i = items [call a]",
            "j = call abcdefgh",
            "k = row p[number 0 2 2]",
            "l = row 110?r 1110?s[number 0 1] p[call k] q[items [number 0 1]]",
        ])
        self.assertEqual(edition_text(one), text)
        self.assertTrue(read_edition(text) == one)
        self.assertEqual(edition_text(Edition(dict(reversed(list(kinds.items()))), "l", 5)), text)
        self.assertEqual(edition_text(edition=read_edition(text=text)), text)

    def test_there_and_back(self):
        for label, one in some_editions(range(1000)):
            text = edition_text(one)
            made = read_edition(text)
            self.assertTrue(made == one, label)
            self.assertEqual(edition_text(made), text)
            self.assertIsNone(wrong_line(text), label)

    def test_counts_of_kinds(self):
        for many in (1, 20):
            kinds = {"abcdefghijklmnopqrstuvwxyz"[at]: BIT for at in range(many)}
            text = "edition a 1" + "".join(f"\n{name} = number 0 1" for name in sorted(kinds))
            self.assertEqual(edition_text(Edition(kinds, "a", 1)), text)
            self.assertTrue(read_edition(text) == Edition(kinds, "a", 1))


class ReadEditionTest(ErrorsCase):
    TEXT = "\n".join(["edition car 4", "car = row speed[number 0 99 7] 11?extra[items 1 [bits 2]] sort[call sort]",
                      "sort = choice 0:van[nothing] 10:bus[number 1 3]"])

    def refused(self, line, *texts):
        for text in texts:
            self.raises(BadText(line), read_edition, text)

    def test_no_string(self):
        for thing in strange_things():
            if not isinstance(thing, str):
                self.raises(BadText(-1), read_edition, thing)
            else:
                self.raises(BadText(0), read_edition, thing)
        self.raises(BadText(-1), read_edition, self.TEXT.encode())
        self.raises(BadText(-1), read_edition, [self.TEXT])

    def test_first_line(self):
        good = "\na = bits 1"
        self.assertEqual(read_edition("edition a 1" + good).root, "a")
        for line in ["", " ", "edition", "edition ", "edition a", "edition a ", "edition  a 1", "edition a  1", " edition a 1", "edition a 1 ",
                     "edition a 01", "edition a +1", "edition a -0", "edition a 00", "edition a 1.", "edition a \u0661", "edition a \u00b9",
                     "edition a one", "edition A 1", "edition a1 1", "edition abcdefghi 1", "edition 1 a", "Edition a 1", "editions a 1",
                     "edition a 1 1", "edition a 1\r", "edition\ta 1", "edition a " + "1" * 61, "edition a -" + "1" * 61, "edition a --1",
                     "edition a 1_0", "edition a - 1", "edition \u00e4 1", "editio", "a = bits 1"]:
            self.refused(0, line + good, line + "\n", line)

    def test_a_count_of_any_integer_is_a_right_line(self):
        for count in (0, 6, -1, 10 ** 59, -(10 ** 59), 10 ** 60 - 1):
            self.raises(BadEdition("count"), read_edition, f"edition a {count}\na = bits 1")
            self.refused(1, f"edition a {count}\na = bits")
        self.raises(BadEdition("kinds"), read_edition, "edition a 1")
        self.raises(BadEdition("kinds"), read_edition, "edition a 0")

    def test_later_lines(self):
        wrong = [
            "", " ", "a", "a =", "a = ", "a=bits 1", "a  = bits 1", "a =  bits 1", " a = bits 1", "a = bits 1 ", "a = bits  1", "a = bits",
            "a = bits 0", "a = bits 17", "a = bits 01", "a = bits +1", "a = bits -1", "a = bits 1 1", "a = Bits 1", "a = bit 1", "A = bits 1",
            "a1 = bits 1", "abcdefghi = bits 1", "= bits 1", "a = = bits 1", "a: bits 1", "a = bits 1\r", "a = bits\t1", "a = bits \u0661",
            "a = bits " + "1" * 61, "a = nothing", "a = number 0", "a = number 0 0", "a = number 1 0", "a = number 0 2 1", "a = number 0 1 0",
            "a = number 0 1 61", "a = number 0 1 1 1", "a = number 0 1 ", "a = number -0 1", "a = number 00 1", "a = number 0 01",
            "a = number 0 1 01", "a = number +0 1", "a = number - 1", "a = number 0 -", "a = number 0," + "1", f"a = number 0 {2 ** 60}",
            f"a = number {'9' * 61} {'9' * 60}8", f"a = number -{'1' * 61} -1", "a = call", "a = call ", "a = call A", "a = call abcdefghi",
            "a = call a b", "a = call 1", "a = items", "a = items ", "a = items []", "a = items bits 1", "a = items[bits 1]",
            "a = items [bits 1", "a = items bits 1]", "a = items [bits 1]]", "a = items [[bits 1]]", "a = items  [bits 1]",
            "a = items [bits 1] ", "a = items [ bits 1]", "a = items [bits 1 ]", "a = items 0 [bits 1]", "a = items 4 [bits 1]",
            "a = items 01 [bits 1]", "a = items 1  [bits 1]", "a = items 1[bits 1]", "a = items 1 2 [bits 1]", "a = items [bits 1] 1",
            "a = items [nothing]", "a = items [items [bits 1]]", "a = items [row p[bits 1]]", "a = items [bits 17]", "a = items [bits 1][bits 1]",
            "a = choice", "a = choice ", "a = row", "a = row ", "a = choice 0?x", "a = choice 0:x", "a = choice 0:x[]", "a = choice 0:x[bits 1",
            "a = choice 0:xbits 1]", "a = choice 0:x[bits 1]]", "a = choice 0:x[bits 1]1:y[nothing]", "a = choice 0:x[bits 1]  1:y[nothing]",
            "a = choice  0:x[bits 1]", "a = choice 0:x[bits 1] ", "a = choice :x[bits 1]", "a = choice 2:x[bits 1]", "a = choice 0 :x[bits 1]",
            "a = choice 0: x[bits 1]", "a = choice 0:x [bits 1]", "a = choice 000000000:x[bits 1]", "a = choice 0:X[bits 1]",
            "a = choice 0:x1[bits 1]", "a = choice 0:abcdefghi[bits 1]", "a = choice 0:[bits 1]", "a = choice x[bits 1]", "a = choice 0x[bits 1]",
            "a = choice 0:x[bits 1] 0:y[bits 1]", "a = choice 0:x[bits 1] 01:y[bits 1]", "a = choice 0:x[bits 1] 1:x[bits 1]",
            "a = choice 0:x[choice 0:y[bits 1]]", "a = choice 0:x[call y] 1?x", "a = choice 0:x[nothing] 1?y[]", "a = choice 0:x[nothing] 1?y[row]",
            "a = choice 0:x[bits 1], 1:y[bits 1]", "a = row p", "a = row p[]", "a = row p[nothing]", "a = row 0:p[bits 1]", "a = row 0?p[bits 1]",
            "a = row 0?r", "a = row p[bits 1] 0?r", "a = row p[bits 1] p[bits 1]", "a = row 0?p p[bits 1]", "a = row ?r p[bits 1]",
            "a = row 2?r p[bits 1]", "a = row 000000000?r p[bits 1]", "a = row 0?r[nothing] p[bits 1]", "a = row p[bits 1]q[bits 1]",
            "a = row p[bits 1]  q[bits 1]", "a = row p [bits 1]", "a = row p[bits 1] ", "a = row p[bits 1][bits 1]", "a = row P[bits 1]",
            "a = row p[row q[bits 1]]", "a = row " + " ".join(f"{name}[bits 1]" for name in "abcdefghi"),
            "a = choice " + " ".join(f"{at:04b}:{'abcdefghijklm'[at]}[bits 1]" for at in range(13)),
        ]
        for line in wrong:
            self.refused(1, f"edition a 1\n{line}", f"edition a 0\n{line}\n", f"edition a 1\n{line}\nb = bits 1")
            self.refused(2, f"edition b 1\nA = bits 1\n{line}".replace("A", "a") if not line.startswith("a") else f"edition a 1\na = bits 1\nb{line[1:]}")
        self.assertIsNone(wrong_line("edition a 1\na = bits 1"))
        for line in wrong:
            self.assertEqual(wrong_line(f"edition a 1\n{line}"), 1, line)

    def test_empty_last_lines(self):
        self.refused(3, self.TEXT + "\n", self.TEXT + "\n\n", self.TEXT + "\n ", self.TEXT + "\n\nt = bits 1")
        self.refused(1, "edition a 1\n", "edition a 1\n\na = bits 1")
        self.refused(2, self.TEXT.replace("\nsort", "\n\nsort"), self.TEXT.replace("\nsort", "\r\nsort").replace("]\r\n", "]\n\r\n"))
        self.refused(1, self.TEXT.replace("\nsort", "\r\nsort"))
        self.refused(0, "\n" + self.TEXT, self.TEXT.replace("4\n", "4\r\n"))

    def test_names_ascend(self):
        self.refused(2, "edition a 1\na = bits 1\na = bits 1", "edition a 1\nb = bits 1\na = bits 1", "edition a 1\nab = bits 1\naa = bits 1")
        self.refused(3, "edition a 1\na = bits 1\nb = bits 1\nb = bits 1", "edition a 1\nab = bits 1\nb = bits 1\nac = bits 1")
        made = read_edition("edition z 1\na = bits 1\nab = bits 1\nb = bits 1\nz = bits 1")
        self.assertEqual(sorted(made.kinds), ["a", "ab", "b", "z"])

    def test_the_first_wrong_line(self):
        self.refused(0, "edition a\na = bits\nb = bits")
        self.refused(1, "edition a 1\na = bits\nb = bits", "edition a 1\nb = bits\na = bits 1")
        self.refused(2, "edition a 1\na = bits 1\nb = bits 17\na = bits 1")

    def test_errors_of_editions(self):
        cases = [
            (BadEdition("root"), "edition b 1\na = bits 1"), (BadEdition("count"), "edition a 6\na = bits 1"),
            (BadEdition("root"), "edition b 0\na = bits 1"),
            (BadEdition("kinds"), "edition a 0" + "".join(f"\n{name} = bits 1" for name in "abcdefghijklmnopqrstu")),
            (MissingKind("c"), "edition a 1\na = row p[call d] q[call c]\nb = call a"), (RingOfCalls("a"), "edition a 1\na = call b\nb = items [call a]"),
            (LongBody("a", "x"), "edition a 1\na = choice 0:w[nothing] 1?x[bits 2]"),
            (RoomTaken("a", "r"), "edition a 1\na = row 11?r p[bits 2]"),
        ]
        for error, text in cases:
            self.raises(error, read_edition, text)
            self.refused(text.count("\n") + 1, text + "\n")

    def test_deep_brackets(self):
        for text in ("a = " + "items [" * 5000, "a = items " + "[" * 5000, "a = choice 0:x" + "[choice 0:x" * 5000, "a = " + "row p[" * 5000):
            self.refused(1, "edition a 1\n" + text)

    def test_changed_texts(self):
        """One character more, less or another one: a text is read if it is the text of an edition, and otherwise told."""
        luck = random.Random(1)
        read = 0
        texts = [edition_text(one) for _, one in random_editions(range(0, 400, 5))] + [self.TEXT] * 20
        for text in texts:
            for _ in range(40):
                at = luck.randrange(len(text) + 1)
                letter = luck.choice(" \n[]01:?-=5abnr\r" + text)
                other = luck.choice([text[:at] + letter + text[at:], text[:at] + text[at + 1:], text[:at] + letter + text[at + 1:]])
                wrong = wrong_line(other)
                if wrong is not None:
                    self.raises(BadText(wrong), read_edition, other)
                    continue
                try:
                    self.assertEqual(edition_text(read_edition(other)), other)
                    read += 1
                except RoomError as error:
                    self.assertNotIsInstance(error, (BadText, BadKind))
        self.assertGreater(read, 100)


if __name__ == "__main__":
    unittest.main()
