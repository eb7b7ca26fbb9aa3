import random
import time
import unittest

from everstock.errors import Full, NoAsk, NoHouse, NoKind, NoName, NoSpare, NoStore, NoWay, StockError, Taken
from everstock.fates import life
from everstock.hands import Hand
from everstock.houses import is_house, is_store
from everstock.shelf import Shelf
from tests import boxed
from tests.boxed import NEVER_TAKES, ODD, ONE_ASK_WEARS, TO_AND_FRO, WEARS_OUT, changing
from tests.things import ANYTHING

SECONDS = 60
NO_NAMES = ANYTHING + ODD + ("abcdefghi", "A", "aB", "a1", "a b", " ", "a ", "\u00e9", "a\n", "a-b", "_", "\u0430", b"a",
                             ("a",), ["a"], {"a": 1})
EIGHT = ("a", "z", "abcdefgh", "stuvwxyz", "b", "ab", "zz", "till")


def is_name(thing):
    return type(thing) is str and 1 <= len(thing) <= 8 and set(thing) <= set("abcdefghijklmnopqrstuvwxyz")


def shelf_of(**hands):
    shelf = Shelf()
    for name, (house, store) in hands.items():
        shelf.put(name, house, store)
    return shelf


def standing(shelf):
    return {name: (shelf.house(name), shelf.store(name), shelf.life(name)) for name in shelf.names()}


class Shelves(unittest.TestCase):
    def refused(self, error, shelf, word, *its, **fields):
        """The deed is refused with just this error, and nothing is changed by it."""
        before = standing(shelf)
        with self.assertRaises(StockError) as caught:
            getattr(shelf, word)(*its)
        self.assertIs(type(caught.exception), error, its)
        for field, told in fields.items():
            self.assertIs(getattr(caught.exception, field), told)
        self.assertEqual(standing(shelf), before)


class Point16Put(Shelves):
    def test_put(self):
        shelf = Shelf()
        self.assertEqual(shelf.names(), [])
        self.assertIsNone(shelf.put("till", TO_AND_FRO, (1, 2)))
        self.assertEqual(shelf.names(), ["till"])
        self.assertEqual((shelf.house("till"), shelf.store("till"), shelf.life("till")), (TO_AND_FRO, (1, 2), None))
        shelf.put("worn", WEARS_OUT, (7,))
        self.assertEqual(shelf.life("worn"), 7)

    def test_names_are_sorted_and_the_askers_own(self):
        shelf = Shelf()
        for name in EIGHT:
            shelf.put(name, WEARS_OUT, (1,))
        told = shelf.names()
        self.assertEqual(told, ["a", "ab", "abcdefgh", "b", "stuvwxyz", "till", "z", "zz"])
        told.append("more")
        told[0] = None
        self.assertEqual(shelf.names(), sorted(EIGHT))

    def test_no_name(self):
        shelf = shelf_of(a=(TO_AND_FRO, (1, 1)))
        for thing in NO_NAMES:
            if is_name(thing):
                continue
            self.refused(NoName, shelf, "put", thing, TO_AND_FRO, (1, 1), name=thing)
            # Ahead of each that is told behind it.
            self.refused(NoName, shelf, "put", thing, None, None, name=thing)
        for name in ("b", "abcdefgh", "zzzzzzzz"):
            shelf.put(name, TO_AND_FRO, (1, 1))

    def test_taken(self):
        shelf = shelf_of(a=(TO_AND_FRO, (1, 1)))
        self.refused(Taken, shelf, "put", "a", TO_AND_FRO, (1, 1), name="a")
        self.refused(Taken, shelf, "put", "a", None, None, name="a")
        full = shelf_of(**{name: (WEARS_OUT, (1,)) for name in EIGHT})
        self.refused(Taken, full, "put", "till", None, None, name="till")

    def test_a_ninth_one(self):
        shelf = shelf_of(**{name: (WEARS_OUT, (1,)) for name in EIGHT})
        self.refused(Full, shelf, "put", "c", WEARS_OUT, (1,), most=8)
        self.refused(Full, shelf, "put", "c", None, None, most=8)
        self.refused(NoName, shelf, "put", "C", None, None, name="C")
        shelf.drop("ab")
        shelf.put("c", WEARS_OUT, (1,))
        self.refused(Full, shelf, "put", "ab", WEARS_OUT, (1,), most=8)

    def test_no_house_then_no_store(self):
        shelf = Shelf()
        for thing in ANYTHING + ODD + (list(TO_AND_FRO), TO_AND_FRO[0], TO_AND_FRO * 9):
            if not is_house(thing):
                self.refused(NoHouse, shelf, "put", "a", thing, (1, 1))
                self.refused(NoHouse, shelf, "put", "a", thing, None)
            if not is_store(TO_AND_FRO, thing):
                self.refused(NoStore, shelf, "put", "a", TO_AND_FRO, thing)
        self.assertEqual(shelf.names(), [])
        self.assertIsNone(shelf.undo())


class Point16Meet(Shelves):
    def test_as_a_hand_does(self):
        chance = random.Random(160)
        shelf = shelf_of(a=(changing(3), (2, 5)), b=(ONE_ASK_WEARS, (9,)), c=(NEVER_TAKES, (0, 0)))
        hands = {name: Hand(shelf.house(name), shelf.store(name)) for name in "abc"}
        for _ in range(60):
            name = chance.choice("abc")
            i = chance.randrange(len(shelf.house(name)))
            try:
                expected = hands[name].meet(i)
            except NoWay:
                self.refused(NoWay, shelf, "meet", name, i)
            else:
                self.assertEqual(shelf.meet(name, i), expected)
            for one, hand in hands.items():
                self.assertEqual((shelf.store(one), shelf.life(one)), (hand.store(), hand.life()))

    def test_refused(self):
        shelf = shelf_of(a=(TO_AND_FRO * 2, (0, 0)), b=(WEARS_OUT, (1,)))
        for thing in NO_NAMES + ("c", "aa"):
            if thing not in ("a", "b"):
                self.refused(NoName, shelf, "meet", thing, 0, name=thing)
                self.refused(NoName, shelf, "meet", thing, None, name=thing)
        for thing in ANYTHING + (2, -1, True, False, None, "0", [0]):
            if type(thing) is not int or thing not in (0, 1):
                self.refused(NoAsk, shelf, "meet", "a", thing, number=thing)
        self.refused(NoAsk, shelf, "meet", "b", 1, number=1)
        self.refused(NoWay, shelf, "meet", "a", 0)
        self.assertEqual(shelf.meet("b", 0), 0)
        self.refused(NoWay, shelf, "meet", "b", 0)


class Point16Lend(Shelves):
    def setUp(self):
        # The first one of a can be all spared but one; b lacks one of its second.
        self.shelf = shelf_of(a=(TO_AND_FRO, (3, 2)), b=(changing(4), (0, 3)), c=(WEARS_OUT, (5,)))

    def test_lend(self):
        shelf = self.shelf
        self.assertEqual(shelf.life("b"), 0)
        self.assertIsNone(shelf.lend("a", 0, "b", 1, 1))
        self.assertEqual((shelf.store("a"), shelf.store("b")), ((2, 2), (0, 4)))
        self.assertIsNone(shelf.life("b"))
        shelf.lend("a", 1, "c", 0, 2)
        self.assertEqual((shelf.store("a"), shelf.store("c")), ((2, 0), (7,)))
        self.assertEqual(shelf.life("c"), 7)

    def test_just_enough_one_more_and_none(self):
        shelf = self.shelf
        shelf.lend("a", 1, "b", 0, 2)
        self.assertEqual(shelf.store("a"), (3, 0))
        self.refused(NoSpare, shelf, "lend", "a", 0, "b", 0, 3)
        shelf.lend("a", 0, "b", 0, 2)
        self.assertEqual((shelf.store("a"), shelf.store("b")), ((1, 0), (4, 3)))
        self.refused(NoSpare, shelf, "lend", "a", 0, "b", 0, 1)
        shelf.lend("a", 0, "b", 0, 0)
        self.assertEqual((shelf.store("a"), shelf.store("b")), ((1, 0), (4, 3)))
        self.assertEqual(shelf.undo(), "lend")
        self.assertEqual(shelf.undo(), "lend")
        self.assertEqual((shelf.store("a"), shelf.store("b")), ((3, 0), (2, 3)))
        # What doesn't last for ever has nothing to lend, not even nothing.
        self.refused(NoSpare, shelf, "lend", "c", 0, "a", 0, 0)

    def test_no_name_the_first_ahead_of_the_other_one(self):
        for thing in NO_NAMES + ("d", "aa"):
            if thing in ("a", "b", "c"):
                continue
            self.refused(NoName, self.shelf, "lend", thing, 0, "b", 0, 0, name=thing)
            self.refused(NoName, self.shelf, "lend", "a", 0, thing, 0, 0, name=thing)
            self.refused(NoName, self.shelf, "lend", thing, None, "none", None, None, name=thing)
            self.refused(NoName, self.shelf, "lend", "a", None, thing, None, None, name=thing)
            self.refused(NoName, self.shelf, "lendable", thing, 0, "b", 0, name=thing)
            self.refused(NoName, self.shelf, "lendable", "a", 0, thing, 0, name=thing)
            self.refused(NoName, self.shelf, "lendable", thing, None, "none", None, name=thing)
            self.refused(NoName, self.shelf, "lendable", "a", None, thing, None, name=thing)

    def test_from_a_name_to_itself(self):
        for name in ("a", "b", "c"):
            self.refused(NoName, self.shelf, "lend", name, 0, name, 0, 0, name=name)
            self.refused(NoName, self.shelf, "lend", name, 9, name, 9, None, name=name)
            self.refused(NoName, self.shelf, "lendable", name, 0, name, 0, name=name)
            self.refused(NoName, self.shelf, "lendable", name, None, name, 0, name=name)

    def test_no_kind_the_first_ones_ahead(self):
        for thing in ANYTHING + (2, -1, True, False, None, "0", [0]):
            if type(thing) is int and thing in (0, 1):
                continue
            self.refused(NoKind, self.shelf, "lend", "a", thing, "b", 0, 0, number=thing)
            self.refused(NoKind, self.shelf, "lend", "a", 0, "b", thing, 0, number=thing)
            self.refused(NoKind, self.shelf, "lend", "a", thing, "b", "none", None, number=thing)
            self.refused(NoKind, self.shelf, "lend", "a", 0, "b", thing, None, number=thing)
            self.refused(NoKind, self.shelf, "lendable", "a", thing, "b", 0, number=thing)
            self.refused(NoKind, self.shelf, "lendable", "a", 0, "b", thing, number=thing)
            self.refused(NoKind, self.shelf, "lendable", "a", thing, "b", "none", number=thing)
        # Each by its own kinds.
        self.refused(NoKind, self.shelf, "lend", "a", 1, "c", 1, 0, number=1)
        self.refused(NoKind, self.shelf, "lend", "c", 1, "a", 1, 0, number=1)
        self.shelf.lend("a", 1, "c", 0, 0)

    def test_no_store_of_the_number_lent_then_no_spare(self):
        for thing in ANYTHING + (-1, 4, True, False, None, "1", [1], (1,), 10 ** 59):
            if type(thing) is not int or not 0 <= thing <= 3:
                self.refused(NoStore, self.shelf, "lend", "a", 0, "b", 0, thing)
        self.refused(NoStore, self.shelf, "lend", "c", 0, "b", 0, 6)
        self.refused(NoSpare, self.shelf, "lend", "c", 0, "b", 0, 5)
        self.refused(NoStore, self.shelf, "lend", "a", 1, "b", 0, 3)
        self.shelf.lend("a", 1, "b", 0, 2)

    def test_the_other_one_need_not_last(self):
        self.shelf.lend("a", 0, "b", 1, 0)
        self.assertEqual(self.shelf.life("b"), 0)
        self.shelf.lend("a", 0, "c", 0, 1)
        self.assertEqual(self.shelf.life("c"), 6)


class Point16Lendable(Shelves):
    def expected(self, shelf, name, kind, other, others_kind):
        """The least number, all numbers gone through."""
        store, its = shelf.store(name), shelf.store(other)
        for many in range(store[kind] + 1):
            left = store[:kind] + (store[kind] - many,) + store[kind + 1:]
            more = its[:others_kind] + (its[others_kind] + many,) + its[others_kind + 1:]
            if life(shelf.house(name), left) is None and life(shelf.house(other), more) is None:
                return many
        return None

    def test_by_hand(self):
        shelf = shelf_of(a=(TO_AND_FRO, (3, 2)), b=(changing(4), (0, 2)), c=(WEARS_OUT, (5,)), d=(changing(4), (0, 0)))
        self.assertEqual(shelf.lendable("a", 0, "b", 0), 1)
        self.assertEqual(shelf.lendable("a", 0, "b", 1), 2)
        self.assertEqual(shelf.lendable("a", 1, "b", 1), 2)
        self.assertIsNone(shelf.lendable("a", 0, "d", 1))
        self.assertIsNone(shelf.lendable("a", 0, "c", 0))
        self.assertIsNone(shelf.lendable("c", 0, "a", 0))
        self.assertIsNone(shelf.lendable("b", 1, "a", 0))
        self.assertEqual(shelf.lendable("a", 1, "d", 0), 1)
        shelf.lend("a", 0, "b", 1, 2)
        self.assertEqual(shelf.lendable("a", 0, "b", 1), 0)
        self.assertEqual(shelf.lendable("b", 1, "a", 0), 0)
        shelf.lend("a", 0, "b", 0, 1)
        self.assertEqual(shelf.store("a"), (0, 2))
        self.assertEqual(shelf.lendable("a", 1, "d", 0), 1)
        self.assertIsNone(shelf.lendable("a", 1, "d", 1))

    def test_all_numbers_gone_through(self):
        chance, seen = random.Random(161), []
        houses = [house for house in boxed.small_houses(161, 4)]
        houses += [changing(n) for n in (1, 2, 3, 4)] * 8
        for _ in range(150):
            house, other = chance.choice(houses), chance.choice(houses)
            store = tuple(chance.randint(0, 4) for _ in house[0][0])
            its = tuple(chance.randint(0, 2) for _ in other[0][0])
            kind, others_kind = chance.randrange(len(store)), chance.randrange(len(its))
            richest = its[:others_kind] + (its[others_kind] + store[kind],) + its[others_kind + 1:]
            if not boxed.all_below_known(house, store) or not boxed.all_below_known(other, richest):
                continue
            shelf = shelf_of(a=(house, store), b=(other, its))
            told = shelf.lendable("a", kind, "b", others_kind)
            self.assertEqual(told, self.expected(shelf, "a", kind, "b", others_kind), (house, store, other, its))
            seen.append(told)
            if told is not None:
                shelf.lend("a", kind, "b", others_kind, told)
                self.assertIsNone(shelf.life("a"))
                self.assertIsNone(shelf.life("b"))
        self.assertGreater(seen.count(None), 10)
        self.assertGreater(seen.count(0), 5)
        self.assertGreater(len([told for told in seen if told]), 10)

    def test_great_numbers(self):
        begun = time.monotonic()
        shelf = shelf_of(a=(TO_AND_FRO, (10 ** 59, 0)), b=(changing(16), (0, 5)))
        self.assertEqual(shelf.lendable("a", 0, "b", 1), 11)
        shelf.lend("a", 0, "b", 1, 10 ** 59 - 1)
        self.assertEqual((shelf.store("a"), shelf.store("b")), ((1, 0), (0, 10 ** 59 + 4)))
        self.assertEqual(shelf.lendable("b", 1, "a", 0), 0)
        self.assertLess(time.monotonic() - begun, SECONDS)


class Point16DropAndUndo(Shelves):
    def test_drop(self):
        shelf = shelf_of(a=(TO_AND_FRO, (1, 1)), b=(WEARS_OUT, (2,)))
        self.assertIsNone(shelf.drop("a"))
        self.assertEqual(shelf.names(), ["b"])
        self.refused(NoName, shelf, "drop", "a", name="a")
        shelf.put("a", WEARS_OUT, (3,))
        self.assertEqual(shelf.store("a"), (3,))
        for thing in NO_NAMES + ("c",):
            if thing not in ("a", "b"):
                for word in ("drop", "store", "house", "life"):
                    self.refused(NoName, shelf, word, thing, name=thing)

    def test_undo_of_each_deed(self):
        shelf = Shelf()
        deeds = (("put", "a", TO_AND_FRO, (3, 2)), ("put", "b", changing(4), (0, 3)), ("meet", "a", 0),
                 ("lend", "a", 1, "b", 1, 2), ("meet", "b", 0), ("drop", "a"), ("put", "a", WEARS_OUT, (4,)),
                 ("meet", "a", 0), ("drop", "b"), ("drop", "a"))
        stands = []
        for word, *its in deeds:
            stands.append(standing(shelf))
            getattr(shelf, word)(*its)
        for word, *_ in reversed(deeds):
            self.assertEqual(shelf.undo(), word)
            self.assertEqual(standing(shelf), stands.pop())
        for _ in range(3):
            self.assertIsNone(shelf.undo())
        self.assertEqual(shelf.names(), [])
        shelf.put("a", TO_AND_FRO, (3, 2))
        self.assertEqual(shelf.undo(), "put")

    def test_what_is_refused_is_no_deed(self):
        shelf = shelf_of(a=(TO_AND_FRO, (0, 0)))
        for word, *its in (("put", "a", None, None), ("meet", "a", 0), ("meet", "a", 1), ("drop", "b"),
                           ("lend", "a", 0, "a", 0, 0), ("lend", "b", 0, "a", 0, 0)):
            with self.assertRaises(StockError):
                getattr(shelf, word)(*its)
        self.assertEqual(shelf.undo(), "put")
        self.assertIsNone(shelf.undo())

    def test_two_shelves_beside_one_another(self):
        one, other = shelf_of(a=(TO_AND_FRO, (1, 1))), shelf_of(a=(TO_AND_FRO, (1, 1)))
        one.meet("a", 0)
        one.put("b", WEARS_OUT, (1,))
        self.assertEqual(other.store("a"), (1, 1))
        self.assertEqual(other.names(), ["a"])
        self.assertEqual(other.undo(), "put")
        self.assertEqual(one.names(), ["a", "b"])
        self.assertEqual([one.undo() for _ in range(4)], ["put", "meet", "put", None])

    def test_many_deeds_at_random(self):
        chance, words = random.Random(162), []
        houses = [changing(n) for n in (1, 2, 3)] + [WEARS_OUT, ONE_ASK_WEARS, NEVER_TAKES]
        for _ in range(60):
            shelf, stands = Shelf(), []
            for _ in range(40):
                word = chance.choice(("put",) * 4 + ("meet",) * 6 + ("lend",) * 6 + ("drop", "undo", "undo"))
                names = [chance.choice("abc") for _ in range(2)]
                before = standing(shelf)
                house = chance.choice(houses)
                its = {
                    "put": (names[0], house, tuple(chance.randint(0, 4) for _ in house[0][0])),
                    "meet": (names[0], chance.choice((0, 0, 0, 1))),
                    "lend": (names[0], chance.randint(0, 1), names[1], chance.randint(0, 1), chance.randint(0, 2)),
                    "drop": (names[0],), "undo": (),
                }[word]
                try:
                    told = getattr(shelf, word)(*its)
                except StockError:
                    self.assertEqual(standing(shelf), before)
                    continue
                words.append(word)
                if word != "undo":
                    stands.append((word, before))
                elif stands:
                    self.assertEqual((told, standing(shelf)), stands.pop())
                else:
                    self.assertIsNone(told)
        for word in ("put", "meet", "lend", "drop", "undo"):
            self.assertGreater(words.count(word), 20, word)


class Point16Equal(Shelves):
    def same(self, one, other, told):
        self.assertIs(one == other, told)
        self.assertIs(other == one, told)
        self.assertIs(one != other, not told)

    def test_the_same_names_with_equal_houses_and_stores(self):
        one = shelf_of(a=(TO_AND_FRO, (1, 1)), b=(WEARS_OUT, (2,)))
        self.same(one, one, True)
        self.same(Shelf(), Shelf(), True)
        self.same(one, Shelf(), False)
        self.same(one, shelf_of(b=(WEARS_OUT, (2,)), a=(TO_AND_FRO, (1, 1))), True)
        self.same(one, shelf_of(a=(TO_AND_FRO, (1, 1))), False)
        self.same(one, shelf_of(a=(TO_AND_FRO, (1, 1)), c=(WEARS_OUT, (2,))), False)
        self.same(one, shelf_of(a=(TO_AND_FRO, (1, 1)), b=(WEARS_OUT, (3,))), False)
        self.same(one, shelf_of(a=(TO_AND_FRO, (1, 1)), b=(ONE_ASK_WEARS, (2,))), False)
        self.same(one, shelf_of(a=(WEARS_OUT, (2,)), b=(TO_AND_FRO, (1, 1))), False)
        self.same(one, shelf_of(a=(TO_AND_FRO, (1, 1)), b=(WEARS_OUT, (2,)), c=(WEARS_OUT, (2,))), False)

    def test_however_it_came(self):
        one = shelf_of(a=(TO_AND_FRO, (2, 1)))
        other = shelf_of(b=(WEARS_OUT, (2,)), a=(TO_AND_FRO, (3, 0)))
        other.drop("b")
        other.meet("a", 0)
        self.same(one, other, True)
        other.undo()
        self.same(one, other, False)

    def test_to_nothing_else(self):
        one = shelf_of(a=(TO_AND_FRO, (1, 1)))
        for thing in ANYTHING + ODD + (standing(one), {"a": (TO_AND_FRO, (1, 1))}, ["a"], Hand(TO_AND_FRO, (1, 1)), Shelf):
            self.same(one, thing, False)
            self.same(Shelf(), thing, False)


class Point2NothingIsKept(Shelves):
    def test_equal_things_made_anew(self):
        house, store = eval(repr(TO_AND_FRO)), eval(repr((1, 1)))
        self.assertEqual(shelf_of(a=(house, store)), shelf_of(a=(TO_AND_FRO, (1, 1))))
        self.assertEqual(repr((house, store)), repr((TO_AND_FRO, (1, 1))))


if __name__ == "__main__":
    unittest.main()
