import random
import unittest

from roomleft.editions import Edition
from roomleft.errors import BadText, NoKind
from roomleft.kinds import Bits, Call, Choice, Door, Items, Nothing, Number, Part, Room, Row, Way
from roomleft.values import is_value
from roomleft.valuetexts import read_value, value_text
from roomleft.writing import written
from tests.lists import BIT, THREE, ErrorsCase, edition, some_editions
from tests.oracle import Oracle
from tests.strange import strange_things


def same(one, other):
    """Equal, and made of the same classes."""
    if type(one) is not type(other):
        return False
    if isinstance(one, dict):
        return set(one) == set(other) and all(same(one[name], other[name]) for name in one)
    if isinstance(one, (list, tuple)):
        return len(one) == len(other) and all(same(*pair) for pair in zip(one, other))
    return one == other


def all_of():
    return edition(4, root=Row([
        Part("num", Number(-10 ** 59, 1 - 10 ** 59)), Room("1111", "unknown", None), Room("1110", "known", Bits(2)), Part("ways", Call("ways")),
        Part("list", Items(Call("small"))), Part("bits", Bits(3))]),
        ways=Choice([Way("00", "no", Nothing()), Way("01", "some", Items(BIT, 2)), Way("100", "dict", Call("small")),
                     Door("101", "door", None), Door("1100", "none", Nothing()), Door("1101", "it", Items(BIT, 2))]),
        small=Row([Part("b", BIT), Part("a", THREE)]))


class ValueTextTest(unittest.TestCase):
    def test_each_form(self):
        for value, text in [
            (None, "-"), (0, "0"), (-7, "-7"), (10 ** 59, "1" + "0" * 59), (1 - 10 ** 60, "-" + "9" * 60), ("0", "'0'"), ("0110", "'0110'"),
            ([], "[]"), ([1], "[1]"), ([1, -2], "[1, -2]"), ([[], ["0"]], "[[], ['0']]"), ([None, None], "[-, -]"),
            (("x", None), "x(-)"), (("abcdefgh", 5), "abcdefgh(5)"), (("x", "01"), "x('01')"), (("x", [1, 2]), "x([1, 2])"),
            (("x", ("y", None)), "x(y(-))"), (("x", {"p": 1}), "x({p: 1})"), (("x", []), "x([])"),
            (("x", None, ""), "x(-, '')"), (("x", 5, "01"), "x(5, '01')"), (("x", ("y", 1, "1"), "0"), "x(y(1, '1'), '0')"),
            ((None, ""), "(-, '')"), ((5, "01"), "(5, '01')"), (("01", ""), "('01', '')"), (("0", "1"), "('0', '1')"),
            ((("x", 1), "1"), "(x(1), '1')"), (([1], ""), "([1], '')"), (({"p": 1}, ""), "({p: 1}, '')"),
            ({"p": 1}, "{p: 1}"), ({"q": 1, "p": 2}, "{p: 2, q: 1}"), ({"b": [{"z": None, "a": (1, "")}], "ab": ("x", None)},
                                                                    "{ab: x(-), b: [{a: (1, ''), z: -}]}"),
        ]:
            self.assertEqual(value_text(value), text)
        self.assertEqual(value_text(value=[1]), "[1]")

    def test_there_and_back(self):
        for label, one in some_editions(range(0, 600, 2)):
            for name in one.kinds:
                for bits, value, _, _ in Oracle(one.kinds, one.count).of(name, 9)[:60]:
                    text = value_text(value)
                    with self.subTest(label=label, text=text):
                        self.assertTrue(same(read_value(one, text, name), value))
                        self.assertEqual(written(one, read_value(one, text, name), name), bits)

    def test_a_great_value(self):
        one = all_of()
        value = {"num": -10 ** 59, "unknown": (None, "0" * 15), "known": ("01", "1"), "ways": ("it", [1, 0], "00"),
                 "list": [{"b": 1, "a": 2}, {"a": 0, "b": 0}], "bits": "010"}
        text = ("{bits: '010', known: ('01', '1'), list: [{a: 2, b: 1}, {a: 0, b: 0}], num: -1" + "0" * 59
                + ", unknown: (-, '000000000000000'), ways: it([1, 0], '00')}")
        self.assertEqual(value_text(value), text)
        self.assertTrue(same(read_value(one, text), value))
        long = [value["list"][0]] * 300
        self.assertTrue(same(read_value(one, value_text({**value, "list": long})), {**value, "list": long}))

    def test_deep_kinds(self):
        names = "abcdefghijklmnopqrst"
        kinds = {name: Row([Part("p", Items(Call(names[at + 1])))]) for at, name in enumerate(names[:-1])}
        one = Edition({**kinds, "t": Row([Part("p", BIT)])}, "a", 1)
        value = {"p": 1}
        for _ in names[:-1]:
            value = {"p": [value]}
        self.assertTrue(same(read_value(one, value_text(value)), value))


class ReadValueTest(ErrorsCase):
    def refused(self, one, *texts):
        for text in texts:
            self.raises(BadText(0), read_value, one, text)

    def test_errors_in_their_order(self):
        one = edition(root=BIT, other=Bits(1))
        for thing in strange_things():
            if not isinstance(thing, str):
                self.raises(BadText(-1), read_value, one, thing)
                self.raises(BadText(-1), read_value, one, thing, "other")
            elif thing not in ("0", "1"):
                self.raises(BadText(0), read_value, one, thing)
            if thing is not None:
                for text in ("0", "x", None, 5):
                    self.raises(NoKind(), read_value, one, text, thing)
        self.raises(BadText(-1), read_value, one, b"0")
        self.assertEqual([read_value(one, "1"), read_value(edition=one, text="'1'", kind="other"), read_value(one, "0", None)], [1, "1", 0])
        self.raises(BadText(0), read_value, one, "'1'")
        self.raises(BadText(0), read_value, one, "1", "other")

    def test_integers(self):
        one = edition(root=Number(-5, 2 ** 59))
        self.assertEqual([read_value(one, text) for text in ("0", "-5", "10", str(2 ** 59))], [0, -5, 10, 2 ** 59])
        self.refused(one, "", "-", "-0", "00", "01", "-01", "+1", "1 ", " 1", "- 1", "--1", "1.0", "1_0", "\u0661", "\u00b2", "-6", str(2 ** 59 + 1),
                     "1" * 61, "0" * 61, "1\n", "\n1", "1,", "[1]", "(1)", "'1'", "None", "True", "0x1", "1-")
        great = edition(root=Number(10 ** 60 - 2, 10 ** 60 - 1))
        self.assertEqual(read_value(great, "9" * 60), 10 ** 60 - 1)
        self.refused(great, "1" + "0" * 60, "0" + "9" * 60)
        low = edition(root=Number(1 - 10 ** 60, 2 - 10 ** 60))
        self.assertEqual(read_value(low, "-" + "9" * 60), 1 - 10 ** 60)

    def test_bits(self):
        one = edition(root=Bits(2))
        self.assertEqual(read_value(one, "'01'"), "01")
        self.refused(one, "01", "'01", "01'", "'0'", "'011'", "''", "'02'", "'0 1'", "' 01'", "\"01\"", "'01''", "''01'", "'01' ", "-")

    def test_lists(self):
        one = edition(root=Items(Number(0, 99), 2))
        self.assertEqual([read_value(one, text) for text in ("[]", "[1]", "[1, 2, 3]")], [[], [1], [1, 2, 3]])
        self.refused(one, "[", "]", "[1", "1]", "[1,2]", "[1 , 2]", "[1,  2]", "[1 2]", "[ ]", "[ 1]", "[1 ]", "[1, ]", "[, 1]", "[,]", "[1, 2,]",
                     "[1, 2, 3, 4]", "[[1]]", "(1, 2)", "[1, 2]]", "[[1, 2]", "[100]", "['1']", "[-]", "{}", "-", "[" * 5000, "[1, 2, 3, 4" + ", 5" * 99 + "]")

    def test_ways(self):
        one = edition(root=Choice([Way("0", "n", Nothing()), Way("10", "b", Number(0, 2)), Door("110", "u", None), Door("1110", "d", Number(0, 2)),
                                   Door("1111", "e", Nothing())]))
        for text, value in [("n(-)", ("n", None)), ("b(2)", ("b", 2)), ("u(-, '')", ("u", None, "")), ("u(-, '0110100')", ("u", None, "0110100")),
                            ("d(0, '1')", ("d", 0, "1")), ("e(-, '')", ("e", None, ""))]:
            self.assertTrue(same(read_value(one, text), value))
        self.refused(one, "n", "n()", "n(-", "n-)", "(-)", "n(-))", "n((-))", "n (-)", "n( -)", "n(- )", "n(0)", "n(-, '')", "N(-)", "x(-)", "(n, -)", "('n', -)",
                     "b(3)", "b(-)", "b(1, '')", "b", "u(-)", "u()", "u(-,'')", "u(-, ''", "u(- , '')", "u(-,  '')", "u('')", "u(0, '')", "u(-, -)",
                     "u(-, 0)", "u(-, '01101001')", "u(-, '2')", "u(-, '', '')", "d(0)", "d(3, '')", "d(-, '')", "d('0', '')", "d(0, '1111111')",
                     "d(2, '111111')", "e(-)", "e(0, '')", "nn(-)", "u(-, '')\n", "[]", "-", "")
        self.assertEqual(read_value(one, "d(2, '11111')"), ("d", 2, "11111"))

    def test_rows(self):
        one = edition(root=Row([Part("q", BIT), Room("111", "r", None), Room("110", "s", Bits(1)), Part("p", Number(0, 1, 2))]))
        for text, value in [
            ("{p: 0, q: 1}", {"p": 0, "q": 1}), ("{p: 0, q: 1, r: (-, '')}", {"p": 0, "q": 1, "r": (None, "")}),
            ("{p: 0, q: 1, r: (-, '01'), s: ('1', '')}", {"p": 0, "q": 1, "r": (None, "01"), "s": ("1", "")}),
            ("{p: 1, q: 1, s: ('0', '111111')}", {"p": 1, "q": 1, "s": ("0", "111111")}),
        ]:
            self.assertTrue(same(read_value(one, text), value))
        self.refused(one, "{}", "{p: 0}", "{q: 1}", "{q: 1, p: 0}", "{p: 0, p: 0, q: 1}", "{p: 0, q: 1, q: 1}", "{p: 0, q: 1, x: 1}", "{p: 0, q: 1",
                     "p: 0, q: 1}", "{p: 0,q: 1}", "{p:0, q:1}", "{p : 0, q: 1}", "{ p: 0, q: 1}", "{p: 0, q: 1 }", "{p: 0, q: 1, }", "{, p: 0, q: 1}",
                     "{p:  0, q: 1}", "{p: 0,  q: 1}", "{p: 2, q: 1}", "{p: 0, q: 2}", "{'p': 0, 'q': 1}", "{P: 0, q: 1}", "{p: 0, q: 1}}", "{{p: 0, q: 1}}",
                     "{p: 0, q: 1, r: -}", "{p: 0, q: 1, r: ''}", "{p: 0, q: 1, r: (-)}", "{p: 0, q: 1, r: (0, '')}", "{p: 0, q: 1, r: (-, '')",
                     "{p: 0, q: 1, r: (-, '00000000')}", "{p: 0, q: 1, s: ('0', '1111111')}", "{p: 0, q: 1, s: '0'}", "{p: 0, q: 1, s: ('0')}",
                     "{p: 0, q: 1, s: ('01', '')}", "{p: 0, q: 1, s: ('', '')}", "{p: 0, q: 1, r: r(-, '')}", "{p: 0, q: 1, s: ('1', ''), r: (-, '')}", "-", "[]")

    def test_changed_texts(self):
        """A text is read exactly if it is the text of the value that it is read as."""
        luck = random.Random(6)
        read = 0
        for label, one in some_editions(range(0, 300, 3)):
            messages = Oracle(one.kinds, one.count).of(one.root, 8)
            for _, value, _, _ in luck.sample(messages, min(5, len(messages))):
                text = value_text(value)
                for _ in range(30):
                    at = luck.randrange(len(text) + 1)
                    letter = luck.choice(" \n,-[]{}()':01pqrxyz2" + text)
                    other = luck.choice([text[:at] + letter + text[at:], text[:at] + text[at + 1:], text[:at] + letter + text[at + 1:]])
                    try:
                        made = read_value(one, other)
                    except BadText as error:
                        self.assertEqual(error.line, 0)
                        self.assertNotEqual(other, text)
                        continue
                    self.assertEqual(value_text(made), other, label)
                    self.assertTrue(is_value(one, made), label)
                    read += 1
        self.assertGreater(read, 100)


if __name__ == "__main__":
    unittest.main()
