import unittest

from roomleft.desk import Desk
from roomleft.editions import Edition
from roomleft.errors import (
    BadBits, BadEdition, BadNumber, BadText, Left, LongBody, MissingKind, NoBits, NoKind, NoLine, NoName, NoOwn, NoStep, NoUndo,
    RoomTaken, TooFew, TooMany,
)
from roomleft.kinds import Bits, Call, Choice, Door, Items, Nothing, Number, Part, Room, Row, Way
from roomleft.steps import AddKind, AddRoom, AddWay, TellBody, Widen, taken
from roomleft.texts import edition_text
from tests.lists import ErrorsCase, chain
from tests.strange import strange_things

CAR = ("edition car 4 | car = row speed[number 0 99 7] sort[call sort] | "
       "sort = choice 0:van[nothing] 10:bus[number 1 3]")
STEPS = ["step first roomy room car 1 11?extra", "step roomy later tell car extra number 0 6 3"]


def car():
    return Edition({"car": Row([Part("speed", Number(0, 99, 7)), Part("sort", Call("sort"))]),
                    "sort": Choice([Way("0", "van", Nothing()), Way("10", "bus", Number(1, 3))])}, "car", 4)


def made(*lines):
    desk = Desk()
    for line in lines:
        desk.tell(line)
    return desk


def cars():
    return made("edition first " + CAR, *STEPS)


GOOD = [
    "edition next " + CAR, "drop first", "step first next kind two bits 2", "step first first way sort 110:tram[items 1 [bits 2]]",
    "step first next way sort 111?tram", "step roomy next room car 0 1110?more[number 0 1]", "step roomy next tell car extra items 2 [bits 1]",
    "step later next widen car extra 7", "undo", "write first {sort: van(-), speed: 5}", "read first 00001010", "own first 00001010",
    "number first 00001010", "free first car", "weight first sort", "sizes first car", "judge later roomy", "sort later roomy 00001010",
    "reads later roomy", "names",
]
FIRST_WORDS = "edition drop step undo write read own number free weight sizes judge sort reads names".split()


class AnswersTest(ErrorsCase):
    def test_editions(self):
        desk = Desk()
        self.assertEqual(desk.tell("names"), "none")
        self.assertEqual(desk.tell("edition first " + CAR), "ok")
        self.assertTrue(desk.edition("first") == car())
        self.assertEqual(desk.tell(line="edition second edition a 1 | a = bits 3"), "ok")
        self.assertEqual(edition_text(desk.edition(name="second")), "edition a 1\na = bits 3")
        self.assertEqual(desk.tell("names"), "first second")
        self.assertEqual(desk.tell("edition first edition b 2 | b = items [bits 1]"), "ok")
        self.assertEqual(edition_text(desk.edition("first")), "edition b 2\nb = items [bits 1]")
        self.assertEqual(desk.tell("names"), "first second")
        self.assertEqual(desk.tell("drop first"), "ok")
        self.assertEqual(desk.tell("names"), "second")
        self.raises(NoName("first"), desk.edition, "first")
        self.assertEqual(desk.tell("drop second"), "ok")
        self.assertEqual(desk.tell("names"), "none")

    def test_all_names(self):
        desk = made(*[f"edition {name} edition a 1 | a = bits 1" for name in ("b", "abcdefgh", "ab", "z", "a")])
        self.assertEqual(desk.tell("names"), "a ab abcdefgh b z")

    def test_each_step(self):
        doors = AddWay("sort", Door("110", "new", None))
        for line, step, base in [
            ("kind two bits 2", AddKind("two", Bits(2)), []),
            ("kind two choice 0:a[nothing] 1?b[items 1 [bits 2]]",
             AddKind("two", Choice([Way("0", "a", Nothing()), Door("1", "b", Items(Bits(2), 1))])), []),
            ("kind two row 111?r p[number 0 2 2]", AddKind("two", Row([Room("111", "r", None), Part("p", Number(0, 2, 2))])), []),
            ("kind two call sort", AddKind("two", Call("sort")), []), ("kind two number -5 -1", AddKind("two", Number(-5, -1)), []),
            ("way sort 110:tram[nothing]", AddWay("sort", Way("110", "tram", Nothing())), []),
            ("way sort 110:tram[items 2 [number 0 1 2]]", AddWay("sort", Way("110", "tram", Items(Number(0, 1, 2), 2))), []),
            ("way sort 110?new", doors, []), ("way sort 110?new[bits 3]", AddWay("sort", Door("110", "new", Bits(3))), []),
            ("room car 1 11?extra", AddRoom("car", 1, Room("11", "extra", None)), []),
            ("room car 0 1111?extra[items 1 [bits 2]]", AddRoom("car", 0, Room("1111", "extra", Items(Bits(2), 1))), []),
            ("tell sort new bits 3", TellBody("sort", "new", Bits(3)), [doors]),
            ("tell sort new nothing", TellBody("sort", "new", Nothing()), [doors]),
            ("tell sort new items 1 [number 0 1]", TellBody("sort", "new", Items(Number(0, 1), 1)), [doors]),
            ("widen car speed 127", Widen("car", "speed", 127), []),
            ("widen num - 3", Widen("num", None, 3), [AddKind("num", Number(-4, -3, 4))]),
            ("widen num - -1", Widen("num", None, -1), [AddKind("num", Number(-4, -3, 4))]),
        ]:
            with self.subTest(line=line):
                one = car()
                for ahead in base:
                    one = taken(one, ahead)
                desk = made("edition one " + edition_text(one).replace("\n", " | "))
                self.assertEqual(desk.tell("step one two " + line), "ok")
                self.assertTrue(desk.edition("two") == taken(one, step))
                self.assertTrue(desk.edition("one") == one)
                self.assertEqual(desk.tell("step one one " + line), "ok")
                self.assertTrue(desk.edition("one") == taken(one, step))
                self.assertEqual(desk.depth(), 3)

    def test_answers(self):
        desk = cars()
        bits = "0000101" + "11" + "0011" + "101" + "0"
        for line, answer in [
            ("names", "first later roomy"), ("write first {sort: van(-), speed: 5}", "00001010"),
            ("write first {sort: bus(2), speed: 5}", "00001011010"), ("write later {extra: (5, ''), sort: van(-), speed: 5}", bits),
            ("read later " + bits, "{extra: (5, ''), sort: van(-), speed: 5}"), ("read roomy " + bits, "{extra: (-, '101'), sort: van(-), speed: 5}"),
            ("own later " + bits, "yes"), ("own roomy " + bits, "no"), ("own first " + bits, "no"), ("own first x", "no"), ("own first 1", "no"),
            ("number first 00000000", "0"), ("number first 00001010", "5"), ("number first 11000110", "99"),
            ("free first car", "111"), ("free roomy car", "111"), ("free first sort", "11"), ("weight first car", "75/128"), ("weight first sort", "3/4"),
            ("sizes first car", "8 11"), ("sizes first sort", "1 4"), ("sizes later car", "8 20"),
            ("judge later roomy", "refused none; short none; in step 00000000; stepped 00000001100110000; other none"),
            ("judge later first", "refused 00000001100110000; short none; in step 00000000; stepped none; other none"),
            ("judge first first", "refused none; short none; in step 00000000; stepped none; other none"),
            ("sort later roomy 00000000", "in step"), ("sort later roomy " + bits, "stepped"), ("sort later first " + bits, "refused"),
            ("reads later roomy", "yes"), ("reads later first", "no"), ("reads first later", "yes"), ("reads first first", "yes"),
        ]:
            self.assertEqual(desk.tell(line), answer, line)
        self.assertEqual(desk.depth(), 3)

    def test_answers_of_other_editions(self):
        desk = made("edition a edition r 2 | c = choice 0:n[nothing] 1?d[number 0 1] | n = number -3 0 2 | r = items [bits 2]",
                    "edition b edition n 2 | n = number -3 0 2", "edition c edition c 2 | c = choice 0:n[nothing] 1:d[number 0 1]")
        for line, answer in [
            ("free a r", "none"), ("weight a r", "1/1"), ("sizes a r", "1 none"), ("sizes a c", "1 4"), ("free a c", "100"),
            ("weight a n", "1/1"), ("write a ['01', '10']", "1" + "01" + "1" + "10" + "0"), ("write a []", "0"), ("read a 1010", "['01']"),
            ("write b -3", "00"), ("read b 01", "-2"), ("number a 1000", "1"),
            ("judge a b", "refused none; short 0; in step none; stepped none; other none"), ("sort a b 0", "short"), ("sort b a 00", "short"),
            ("judge c b", "refused none; short 0; in step none; stepped none; other 10"), ("read c 0", "n(-)"), ("reads a b", "no"),
        ]:
            self.assertEqual(desk.tell(line), answer, line)

    def test_long_answers(self):
        big = "edition a 1 | a = row " + " ".join(f"{name}[number 0 {2 ** 60 - 2} 60]" for name in "abc")
        desk = made("edition x " + big)
        self.assertEqual(desk.tell("weight x a"), f"{(2 ** 60 - 1) ** 3}/{2 ** 180}")
        self.assertEqual(desk.tell("free x a"), "1" * 60)
        self.assertEqual(desk.tell("number x " + "0" * 120 + "1" * 59 + "0"), str(2 ** 60 - 2))


class ErrorsOfLinesTest(ErrorsCase):
    def no_line(self, *lines):
        for line in lines:
            with self.subTest(line=line):
                for desk in (Desk(), cars()):
                    before = desk.tell("names"), desk.depth()
                    self.raises(NoLine(), desk.tell, line)
                    self.assertEqual((desk.tell("names"), desk.depth()), before)

    def test_good_lines(self):
        for line in GOOD:
            desk = cars()
            self.assertIsInstance(desk.tell(line), str, line)
        self.assertEqual(sorted({line.split(" ")[0] for line in GOOD}), sorted(FIRST_WORDS))

    def test_no_string(self):
        for thing in strange_things():
            self.no_line(thing)
        self.no_line(b"names", ["names"], ("names",))

    def test_blanks_and_line_feeds(self):
        for line in GOOD:
            self.no_line(line + " ", " " + line, line + "\n", "\n" + line, line.replace(" ", "  ", 1) if " " in line else line + "  ",
                         line.replace(" ", "\n", 1) if " " in line else line + "\nx", line + "  ")
            words = line.split(" ")
            if len(words) > 1:
                self.no_line("\t".join(words[:2]) + " " + " ".join(words[2:]))
        self.no_line("", " ", "\n", "names\r", "names\t", "names\nnames", "edition first edition a 1\na = bits 1")

    def test_first_words(self):
        for line in GOOD:
            rest = line.split(" ", 1)[1:]
            for word in ("x", "Edition", "names.", "reed", "editions", "NAMES", "-", "0", "na", "tell", "kind", "in"):
                self.no_line(" ".join([word] + rest))
        self.no_line("names1", "undoundo", "help")

    def test_words_too_few(self):
        self.no_line("edition", "edition a", "edition a ", "drop", "step", "step first", "step first next", "step first next ", "step first next kind",
                     "step first next kind two", "step first next kind two ", "step first next way", "step first next way sort", "step first next room car",
                     "step first next room car 1", "step first next room car 1 ", "step first next tell car", "step first next tell car extra",
                     "step first next widen car", "step first next widen car extra", "step first next widen car -", "write", "write first", "write first ",
                     "read", "read first", "read first ", "own first", "number first", "free first", "weight first", "sizes first", "judge", "judge first",
                     "judge first ", "sort first", "sort first first", "sort first first ", "reads", "reads first")

    def test_words_too_many(self):
        self.no_line("undo undo", "undo 1", "names first", "drop first roomy", "read first 0 0", "own first 0 0", "number first 0 0", "free first car car",
                     "weight first car 1", "sizes first car sort", "judge first roomy later", "sort first roomy 0 1", "reads first roomy later",
                     "step first next widen car speed 127 1", "step first next way sort 110?x 111?y", "step first next tell sort new bits 1 2",
                     "step first next room car 1 11?extra 111?more", "step first next kind two bits 2 3")

    def test_names_that_are_none(self):
        for name in ("A", "a1", "abcdefghi", "-", "0", "first.", "first,", "\u00e4", "_", "a-b"):
            self.no_line(f"edition {name} {CAR}", f"drop {name}", f"step {name} next kind two bits 2", f"step first {name} kind two bits 2",
                         f"write {name} 5", f"read {name} 0", f"own {name} 0", f"number {name} 0", f"free {name} car", f"weight {name} car",
                         f"sizes {name} car", f"judge {name} first", f"judge first {name}", f"sort {name} first 0", f"sort first {name} 0",
                         f"reads {name} first", f"reads first {name}", f"step first next kind {name} bits 2", f"step first next way {name} 110?x",
                         f"step first next room {name} 1 11?x", f"step first next tell {name} extra bits 1", f"step first next widen {name} speed 127",
                         f"step first next widen {name} - 127", f"step roomy next tell car {name} bits 1")
            if name != "-":
                self.no_line(f"step first next widen car {name} 127")

    def test_integers_that_are_none(self):
        for word in ("", "x", "01", "-0", "+1", "1.", "00", "\u0661", "1" * 61, "-" + "1" * 61, "--1", "1_0", "-", "1-"):
            self.no_line(f"step first next room car {word} 11?extra", f"step first next widen car speed {word}", f"step first next widen car - {word}")

    def test_steps_that_are_none(self):
        for step in ("kinds two bits 2", "Kind two bits 2", "add two bits 2", "drop two", "car 1 11?extra", "widens car speed 127", "kind two = bits 2", "kind two nothing",
                     "kind two bits 17", "kind two bits 02", "kind two number 1 0", "kind two choice", "kind two choice 0?x", "kind two row 0?r", "kind two items [items [bits 1]]",
                     "kind two row p[nothing]", "kind two two", "kind two choice 0:x[bits 1] 01:y[bits 1]", "way sort tram[bits 1]", "way sort 110:tram", "way sort :tram[bits 1]",
                     "way sort ?tram", "way sort 110:tram[bits 17]", "way sort 110:Tram[bits 1]", "way sort 110:tram[bits 1", "way sort 110: tram[bits 1]", "way sort 000000000:x[bits 1]",
                     "way sort 110?tram[row]", "way sort 110?tram[]", "room car 1 extra[bits 1]", "room car 1 11:extra[bits 1]", "room car 1 11?extra[nothing]", "room car 1 ?extra",
                     "room car 1 11?extra[bits 0]", "room car 1 111111111?extra", "room car 11?extra", "room 1 car 11?extra", "tell car extra", "tell car extra bits", "tell car extra bits 0",
                     "tell car extra choice 0:x[bits 1]", "tell car - bits 1", "tell car extra nothing 1", "tell car extra Nothing", "widen car 127", "widen car speed - 127", "widen car speed"):
            self.no_line("step first next " + step, "step gone next " + step)

    def test_no_name(self):
        desk = cars()
        for line, name in [
            ("drop gone", "gone"), ("drop next", "next"), ("step gone next kind two bits 2", "gone"), ("step gone gone kind car bits 2", "gone"),
            ("write gone x", "gone"), ("read gone x", "gone"), ("own gone x", "gone"), ("number gone x", "gone"), ("free gone X", "gone"),
            ("weight gone X", "gone"), ("sizes gone -", "gone"), ("judge gone first", "gone"), ("judge first gone", "gone"), ("judge gone next", "gone"),
            ("judge next gone", "next"), ("sort gone first x", "gone"), ("sort first gone x", "gone"), ("sort next gone x", "next"),
            ("reads gone next", "gone"), ("reads first gone", "gone"),
        ]:
            self.raises(NoName(name), desk.tell, line)
            self.assertEqual((desk.depth(), desk.tell("names")), (3, "first later roomy"))
        for thing in strange_things():
            self.raises(NoName(thing), desk.edition, thing)
        self.raises(NoName("First"), desk.edition, "First")

    def test_errors_of_what_is_asked(self):
        desk = cars()
        small = made("edition a edition a 1 | a = bits 3 | b = row p[call a]")
        for error, line in [
            (BadText(0), "edition x edition A 1"), (BadText(1), "edition x edition a 1 | a"), (BadText(2), "edition x edition a 1 | a = bits 1 | b = bits 1 1"),
            (BadText(1), "edition x edition a 1 | a = bits 1 |"), (BadText(0), "edition x edition a 1| a = bits 1"), (BadText(0), "edition x x"),
            (BadEdition("kinds"), "edition x edition a 1"), (BadEdition("root"), "edition x edition b 1 | a = bits 1"), (BadEdition("count"), "edition x edition a 6 | a = bits 1"),
            (MissingKind("b"), "edition x edition a 1 | a = call b"), (LongBody("a", "y"), "edition x edition a 1 | a = choice 0:x[nothing] 1?y[bits 2]"),
            (RoomTaken("a", "r"), "edition x edition a 1 | a = row 0?r p[bits 1]"),
            (NoStep("name"), "step first next kind car bits 2"), (NoStep("name"), "step first next way car 1?x"), (NoStep("name"), "step first next widen sort - 5"),
            (NoStep("index"), "step first next room car 2 11?extra"), (NoStep("index"), "step first next room car -1 11?extra"), (NoStep("inner"), "step first next tell car speed bits 1"),
            (NoStep("kind"), "step roomy next tell car extra nothing"), (NoStep("kind"), "step later next tell car extra bits 1"), (NoStep("high"), "step first next widen car speed 128"),
            (NoStep("high"), "step first next widen car speed -128"), (NoStep("same"), "step first next way sort 11:van[nothing]"), (NoStep("word"), "step first next way sort 1?x"),
            (NoStep("missing"), "step first next kind two call three"), (NoStep("room"), "step first next room car 1 1?extra"), (NoStep("long"), "step roomy next tell car extra bits 16"),
            (BadText(0), "write first 5"), (BadText(0), "write first {speed: 5, sort: van(-)}"), (BadText(0), "write first {sort: van(-), speed: 100}"),
            (NoBits(), "read first x"), (BadBits(2), "read first 1110"), (TooFew(1), "read first 0000101"), (Left(8), "read first 000010101"),
            (NoBits(), "number first 2"), (NoOwn(), "number roomy " + "00000001100000"), (BadBits(2), "number first 111"),
            (NoKind(), "free first Car"), (NoKind(), "free first cars"), (NoKind(), "weight first -"), (NoKind(), "sizes first speed"), (NoKind(), "free first 0"),
            (NoBits(), "sort later roomy x"), (TooFew(7), "sort later roomy 0"), (NoOwn(), "sort roomy later 00000001100000"),
        ]:
            with self.subTest(line=line):
                self.raises(error, desk.tell, line)
                self.assertEqual((desk.depth(), desk.tell("names")), (3, "first later roomy"))
        desk.tell("edition chain " + edition_text(chain(20001)).replace("\n", " | "))
        self.raises(TooMany(20000), desk.tell, "judge chain first")
        self.raises(TooMany(20000), desk.tell, "judge first chain")
        items = made("edition a edition a 1 | a = items [bits 16]")
        self.raises(BadNumber("length"), items.tell, "number a " + ("1" + "0" * 16) * 12 + "0")
        self.assertEqual(small.tell("own a 000"), "yes")

    def test_any_word_for_bits_and_kinds(self):
        desk = cars()
        for word in ("x", "Car", "2", "0x", "?", "[bits", "\u0660", "'0'", "\t", "00001010\r", "=", "|"):
            for form in ("read first", "number first", "sort first roomy"):
                self.raises(NoBits(), desk.tell, f"{form} {word}")
            for form in ("free first", "weight first", "sizes first"):
                self.raises(NoKind(), desk.tell, f"{form} {word}")
            self.assertEqual(desk.tell(f"own first {word}"), "no")


class UndoTest(ErrorsCase):
    def test_each_changing_line(self):
        desk = Desk()
        self.assertEqual(desk.depth(), 0)
        self.raises(NoUndo(), desk.tell, "undo")
        kept = []
        for line in ["edition first " + CAR, *STEPS, "drop first", "edition roomy edition a 1 | a = bits 1", "step later later widen car extra 7", "drop later",
                     "edition first edition a 1 | a = bits 2", "step first roomy kind b bits 3"]:
            kept.append(self.book(desk))
            desk.tell(line)
            self.assertEqual(desk.depth(), len(kept))
        while kept:
            self.assertEqual(desk.tell("undo"), "ok")
            self.assertEqual(self.book(desk), kept.pop())
            self.assertEqual(desk.depth(), len(kept))
        self.raises(NoUndo(), desk.tell, "undo")
        self.assertEqual(desk.tell("names"), "none")

    def book(self, desk):
        names = desk.tell("names")
        return {} if names == "none" else {name: edition_text(desk.edition(name)) for name in names.split(" ")}

    def test_other_lines_are_not_taken_back(self):
        desk = cars()
        for line in ("names", "read first 00001010", "judge later roomy", "free first car"):
            desk.tell(line)
        for line in ("drop gone", "step first next kind car bits 1", "edition x y", "nothing", "read first x"):
            with self.assertRaises(ValueError):
                desk.tell(line)
        self.assertEqual(desk.depth(), 3)
        desk.tell("undo")
        self.assertEqual((desk.depth(), desk.tell("names")), (2, "first roomy"))
        desk.tell("undo")
        desk.tell("edition z edition a 1 | a = bits 1")
        desk.tell("undo")
        self.assertEqual((desk.depth(), desk.tell("names")), (1, "first"))

    def test_an_edition_over_an_elder_one(self):
        desk = cars()
        elder = desk.edition("first")
        desk.tell("edition first edition a 1 | a = bits 1")
        desk.tell("step roomy first kind z bits 2")
        desk.tell("undo")
        self.assertEqual(edition_text(desk.edition("first")), "edition a 1\na = bits 1")
        desk.tell("undo")
        self.assertTrue(desk.edition("first") == elder)

    def test_two_desks(self):
        one, other = Desk(), cars()
        one.tell("edition a edition a 1 | a = bits 1")
        other.tell("drop first")
        self.assertEqual([desk.tell("names") for desk in (one, other)], ["a", "later roomy"])
        one.tell("undo")
        self.assertEqual([desk.tell("names") for desk in (one, other)], ["none", "later roomy"])
        self.assertEqual([desk.depth() for desk in (one, other)], [0, 4])

    def test_many_lines(self):
        desk = Desk()
        for at in range(300):
            desk.tell(f"edition {'abcdefgh'[at % 8]} edition a 1 | a = bits {at % 16 + 1}")
        self.assertEqual(desk.depth(), 300)
        for _ in range(299):
            desk.tell("undo")
        self.assertEqual((desk.tell("names"), desk.depth()), ("a", 1))


class TryingTest(ErrorsCase):
    def state(self, desk):
        names = desk.tell("names")
        return names, desk.depth(), [] if names == "none" else [edition_text(desk.edition(name)) for name in names.split(" ")]

    def test_all_is_as_it_was(self):
        desk = cars()
        before = self.state(desk)
        with desk.trying():
            desk.tell("drop first")
            desk.tell("edition roomy edition a 1 | a = bits 1")
            self.assertEqual(desk.tell("names"), "later roomy")
            self.assertEqual(desk.depth(), 5)
        self.assertEqual(self.state(desk), before)
        with desk.trying():
            for _ in range(3):
                desk.tell("undo")
            self.assertEqual((desk.depth(), desk.tell("names")), (0, "none"))
            desk.tell("edition x edition a 1 | a = bits 1")
        self.assertEqual(self.state(desk), before)
        self.assertEqual(desk.tell("undo"), "ok")
        self.assertEqual(desk.tell("names"), "first roomy")
        with desk.trying():
            pass
        self.assertEqual(desk.tell("names"), "first roomy")

    def test_errors_go_on(self):
        desk = cars()
        before = self.state(desk)
        for error, line in ((NoLine(), "x"), (NoName("gone"), "drop gone"), (NoStep("name"), "step roomy next kind car bits 1")):
            def block():
                with desk.trying():
                    desk.tell("drop first")
                    desk.tell(line)
            self.raises(error, block)
            self.assertEqual(self.state(desk), before)
        with self.assertRaises(KeyError):
            with desk.trying():
                desk.tell("drop first")
                raise KeyError("x")
        self.assertEqual(self.state(desk), before)

    def test_however_it_ends(self):
        desk = cars()
        before = self.state(desk)

        def leave():
            with desk.trying():
                desk.tell("drop first")
                return desk.tell("names")

        self.assertEqual(leave(), "later roomy")
        self.assertEqual(self.state(desk), before)
        for _ in range(2):
            with desk.trying():
                desk.tell("drop first")
                break
        self.assertEqual(self.state(desk), before)

    def test_blocks_within_blocks(self):
        desk = cars()
        before = self.state(desk)
        with desk.trying():
            desk.tell("drop first")
            inside = self.state(desk)
            with desk.trying():
                desk.tell("undo")
                desk.tell("undo")
                self.assertEqual(desk.tried(["drop first", "names"]), ["ok", "roomy"])
                self.assertEqual(desk.tell("names"), "first roomy")
            self.assertEqual(self.state(desk), inside)
            desk.tell("drop roomy")
        self.assertEqual(self.state(desk), before)

    def test_each_manager_is_new(self):
        desk = cars()
        self.assertIsNot(desk.trying(), desk.trying())
        late = desk.trying()
        desk.tell("drop first")
        before = self.state(desk)
        with late:
            desk.tell("drop roomy")
        self.assertEqual(self.state(desk), before)

    def test_two_desks(self):
        one, other = cars(), cars()
        before = self.state(one)
        with one.trying():
            one.tell("drop first")
            other.tell("drop roomy")
        self.assertEqual(self.state(one), before)
        self.assertEqual(other.tell("names"), "first later")

    def test_tried(self):
        desk = cars()
        before = self.state(desk)
        lines = ["names", "drop first", "names", "step later more kind z bits 1", "weight more z", "undo", "undo", "names"]
        answers = desk.tried(lines)
        self.assertEqual(answers, ["first later roomy", "ok", "later roomy", "ok", "1/1", "ok", "ok", "first later roomy"])
        self.assertEqual(self.state(desk), before)
        self.assertEqual(len(lines), 8)
        answers.clear()
        self.assertEqual(desk.tried(lines=lines)[0], "first later roomy")
        self.assertEqual(desk.tried([]), [])
        self.raises(NoName("first"), desk.tried, ["drop first", "read first 0", "drop roomy"])
        self.assertEqual(self.state(desk), before)
        self.raises(NoUndo(), desk.tried, ["undo"] * 4)
        self.raises(NoLine(), desk.tried, ["names", None])
        self.assertEqual(self.state(desk), before)


if __name__ == "__main__":
    unittest.main()
