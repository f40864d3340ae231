import unittest

from roomleft.kinds import Bits, Call, Choice, Door, Items, Nothing, Number, Part, Room, Row, Way
from roomleft.states import END, REFUSED, many_standings, own_states, read_states, start_of
from tests.lists import BIT, THREE, Listed, edition, some_editions
from tests.minimal import standings_of
from tests.oracle import rows


def standings(edition, name, most=20000):
    states = read_states(edition)
    return many_standings(states, start_of(states, name), most)


class StatesTest(unittest.TestCase):
    def test_as_few_as_can_be(self):
        for label, one in some_editions(range(1500)):
            for name in one.kinds:
                expected = standings_of(one, name)
                if expected is not None:
                    self.assertEqual(standings(one, name), expected, (label, name))

    def test_states_of_own_messages(self):
        for label, one in some_editions(range(0, 600, 3)):
            states = own_states(one)
            for name in one.kinds:
                listed = Listed(one, name, 10)
                begun = {bits[:size] for bits in listed.own for size in range(len(bits))}
                for bits in rows(min(6, max(listed.sure, 0))):
                    self.walk(states, start_of(states, name), bits, listed.own, begun)

    def walk(self, states, state, bits, own, begun):
        for at, bit in enumerate(bits):
            state = states.move(state, int(bit))
            start = bits[:at + 1]
            self.assertEqual(state == END, start in own, start)
            if start in begun:
                self.assertNotIn(state, (END, REFUSED))
            if state in (END, REFUSED):
                self.assertNotIn(start, begun)
                return

    def test_other_kinds_with_the_same_bits(self):
        """Names, the order of ways, offsets and the like do not count."""
        one = edition(
            root=Row([Part("a", Number(0, 7)), Part("b", Bits(2)), Part("c", Number(3, 6, 2))]), bits=Bits(7),
            ways=Choice([Way("1", "a", Call("six")), Way("00", "b", Bits(5)), Door("01", "c", None)]), six=Bits(6),
            items=Items(BIT), again=Choice([Way("0", "a", Nothing()), Way("1", "b", Call("more"))]),
            more=Row([Part("a", Bits(1)), Part("b", Items(Bits(1)))]),
            room=Row([Room("11", "r", None), Part("p", THREE)]),
            other=Row([Room("11", "s", None), Part("q", Number(-5, -3, 2))]))
        states = read_states(one)
        starts = {name: start_of(states, name) for name in one.kinds}
        self.assertEqual(starts["root"], starts["bits"])
        self.assertEqual(starts["items"], starts["again"])
        self.assertEqual(starts["room"], starts["other"])
        self.assertNotEqual(starts["ways"], starts["bits"])
        self.assertEqual([standings(one, name) for name in ("root", "bits", "items", "again")], [7, 7, 2, 2])

    def test_most(self):
        one = edition(root=Row([Part("a", Bits(16)), Part("b", Bits(4))]))
        self.assertEqual([standings(one, "root", most) for most in (21, 20, 19, 5)], [20, 20, 20, 6])


if __name__ == "__main__":
    unittest.main()
