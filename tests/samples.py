"""Small editions with each kind, doors and rooms, and the number of bits up to which all rows are tried."""

from roomleft.editions import Edition
from roomleft.kinds import Bits, Call, Choice, Door, Items, Nothing, Number, Part, Room, Row, Way

BIT = Number(0, 1)
THREE = Number(0, 2, 2)


def sample_editions():
    """A dict of names to pairs (edition, size)."""
    told = {}

    def add(name, size, count, **kinds):
        told[name] = (Edition(kinds, "root", count), size)

    add("tight", 6, 1, root=Number(-2, 2))
    add("tight of 2", 4, 1, root=BIT)
    add("tight of 11", 6, 1, root=Number(5, 15))
    add("wide", 6, 1, root=Number(3, 7, 3))
    add("wide of 2", 7, 1, root=Number(-1, 0, 5))
    add("bits", 5, 1, root=Bits(3))
    add("run", 8, 1, root=Items(THREE))
    add("run of tight ones", 8, 1, root=Items(Number(1, 3)))
    add("counted", 8, 1, root=Items(Number(1, 3), 2))
    add("counted, 1", 6, 1, root=Items(Bits(2), 1))
    add("call", 6, 1, root=Call("next"), next=Call("last"), last=THREE)
    add("ways", 7, 1, root=Choice([Way("00", "a", Nothing()), Way("011", "b", THREE), Way("1", "c", Items(BIT, 1))]))
    add("one way", 6, 1, root=Choice([Way("101", "a", BIT)]))
    add("row", 8, 1, root=Row([Part("a", THREE), Part("b", Items(BIT)), Part("c", Bits(1))]))
    add("doors", 8, 2, root=Choice([
        Way("0", "a", Nothing()), Door("10", "b", None), Door("110", "c", Nothing()), Door("111", "d", BIT)]))
    add("doors with least counts", 8, 2, root=Choice([
        Door("00", "a", Bits(2)), Door("01", "b", Bits(3)), Door("10", "c", Number(0, 2)), Way("11", "d", Nothing())]))
    add("count of 3", 7, 3, root=Choice([Way("0", "a", Nothing()), Door("1", "b", Items(THREE, 1))]))
    add("unknown room", 8, 1, root=Row([Room("11", "r", None), Part("p", THREE)]))
    add("known room", 8, 2, root=Row([Room("11", "r", Bits(2)), Part("p", THREE)]))
    add("tight room", 8, 2, root=Row([Room("11", "r", Number(0, 2)), Part("p", THREE), Part("q", BIT)]))
    add("several rooms", 8, 1, root=Row([
        Room("110", "r", None), Room("1110", "s", BIT), Room("1111", "t", None), Part("p", THREE)]))
    add("a word behind a word", 8, 2, root=Row([Room("110", "r", None), Room("11", "s", Bits(2)), Part("p", THREE)]))
    add("long word", 7, 1, root=Row([
        Room("1111", "r", None), Part("p", BIT), Part("q", BIT), Part("o", THREE)]))
    add("longest word", 9, 1, root=Row([
        Room("11111111", "r", BIT), Part("p", Items(BIT, 1)), Part("q", Items(BIT, 1)), Part("o", Items(Number(0, 2, 2), 1)),
        Part("n", Number(0, 1, 3))]))
    add("rooms on the way", 8, 1, root=Row([
        Room("1010", "r", None), Part("p", BIT), Room("110", "s", BIT), Part("q", BIT), Room("11", "t", None),
        Part("o", Number(0, 1, 2))]))
    add("rooms in called rows", 8, 1, root=Row([Room("110", "r", None), Part("p", Call("in")), Part("q", Call("in"))]), **{
        "in": Row([Room("111", "r", BIT), Part("p", THREE)])})
    add("rooms in items", 8, 1, root=Items(Call("in")), **{"in": Row([Room("11", "r", None), Part("p", THREE)])})
    add("rooms in ways", 8, 1, root=Choice([Way("0", "a", Call("in")), Way("10", "b", Items(Call("in"), 1))]), **{
        "in": Row([Room("11", "r", None), Part("p", THREE)])})
    add("doors in doors", 9, 3, root=Choice([Way("0", "a", Nothing()), Door("1", "b", Call("in"))]), **{
        "in": Choice([Way("0", "c", BIT), Door("11", "d", BIT)])})
    add("rooms in rooms", 8, 3, root=Row([Room("1", "r", Call("in")), Part("p", Number(0, 1, 2))]), **{
        "in": Row([Room("1", "s", Bits(1)), Part("p", Number(0, 1, 2))])})
    add("unknown ones in doors", 8, 2, root=Choice([Way("0", "a", Nothing()), Door("1", "b", Call("in"))]), **{
        "in": Choice([Way("0", "c", Nothing()), Door("1", "d", None)])})
    add("a room in a door", 8, 2, root=Choice([Way("0", "a", Nothing()), Door("1", "b", Call("in"))]), **{
        "in": Row([Room("11", "r", None), Part("p", THREE)])})
    add("items in a door", 9, 3, root=Choice([Way("0", "a", Nothing()), Door("11", "b", Items(BIT, 2))]))
    return told
