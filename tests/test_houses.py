import unittest

from everstock.houses import covers, is_house, is_store, leads
from tests.things import ANYTHING

ONE = (((0,),),)
FOUR = (((1, -2, 3, -99), (0, 0, 0, 0)), ((99, -99, 99, -99),))
TILL = (((-1, 0), (1, -1)), ((0, -1), (-3, 1)), ((2, 2),))


def house_of(asks=1, ways=1, way=(0, 0)):
    return ((way,) * ways,) * asks


class Point4Houses(unittest.TestCase):
    def yes(self, thing):
        self.assertIs(is_house(thing), True, thing)

    def no(self, thing):
        self.assertIs(is_house(thing), False, thing)

    def test_kinds(self):
        for kinds in (1, 2, 3, 4):
            self.yes(house_of(way=(0,) * kinds))
        self.yes(ONE)
        self.yes(FOUR)
        self.no(house_of(way=(0,) * 5))
        self.no(house_of(way=()))

    def test_asks(self):
        for asks in range(1, 9):
            self.yes(house_of(asks=asks))
        self.no(house_of(asks=9))
        self.no(())

    def test_ways(self):
        for ways in range(1, 6):
            self.yes(house_of(ways=ways))
        self.no(house_of(ways=6))
        self.no(((),))
        self.no((((0,),), ()))
        self.no((((0,),) * 6, ((0,),)))

    def test_numbers(self):
        for number in (-99, -1, 0, 1, 99):
            self.yes(house_of(way=(0, number)))
        for number in (100, -100, 10 ** 59, -(10 ** 59), True, False, None, "1", (1,), [1], {}, ()):
            self.no(house_of(way=(0, number)))
            self.no((((0,), (number,)),))
            self.no((((0,),), ((number,),)))

    def test_ways_of_unlike_lengths(self):
        self.no((((0, 0), (0,)),))
        self.no((((0, 0),), ((0,),)))
        self.no((((0,),), ((0, 0),)))
        self.no((((0,), (0, 0)), ((0,), (0, 0))))

    def test_lists_where_tuples_belong(self):
        self.no([((0,),)])
        self.no(([(0,)],))
        self.no((([0],),))
        self.no(([0],))
        self.no([[[0]]])
        self.no((((0,), [0]),))

    def test_dicts_texts_and_none_within(self):
        for thing in ("", "a", None, {}, {0: 0}, 0, True):
            self.no(thing)
            self.no((thing,))
            self.no(((thing,),))
            self.no((((0,),), thing))
            self.no((((0,), thing),))

    def test_a_store_is_no_house(self):
        self.no((1, 2))
        self.no((0, 0, 0, 0))

    def test_of_anything_just_true_or_false(self):
        for thing in ANYTHING:
            self.no(thing)
            self.no([thing])
            self.no({0: thing})
            self.no((thing, None))
            self.no((((0,),), thing, ""))


class Point4Stores(unittest.TestCase):
    def test_stores(self):
        for store in ((0, 0), (1, 0), (0, 1), (99, 100), (10 ** 59, 10 ** 60 - 1)):
            self.assertIs(is_store(TILL, store), True)
        self.assertIs(is_store(ONE, (0,)), True)
        self.assertIs(is_store(FOUR, (0, 1, 2, 10 ** 59)), True)

    def test_below_nought(self):
        for store in ((-1, 0), (0, -1), (-(10 ** 59), 3)):
            self.assertIs(is_store(TILL, store), False)

    def test_too_short_and_too_long(self):
        for store in ((), (0,), (0, 0, 0), (0, 0, 0, 0)):
            self.assertIs(is_store(TILL, store), False)
        self.assertIs(is_store(ONE, (0, 0)), False)
        self.assertIs(is_store(FOUR, (0, 0, 0)), False)
        self.assertIs(is_store(FOUR, (0, 0, 0, 0, 0)), False)

    def test_no_whole_numbers_and_no_tuples(self):
        for number in (True, False, None, "1", (), (1,), [1], {}):
            self.assertIs(is_store(TILL, (number, 0)), False)
            self.assertIs(is_store(TILL, (0, number)), False)
        for thing in ([0, 0], "00", {0: 0, 1: 0}, None, True, 0):
            self.assertIs(is_store(TILL, thing), False)

    def test_a_house_is_no_store(self):
        for house in (ONE, TILL, FOUR):
            self.assertIs(is_store(house, house), False)
            self.assertIs(is_store(house, house[0]), False)

    def test_of_anything_just_true_or_false(self):
        for thing in ANYTHING:
            for house, store in ((ONE, (0,)), (TILL, (1, 2)), (FOUR, (0, 0, 0, 0))):
                self.assertIs(is_store(house, thing), thing == store, thing)

    def test_of_no_house_nothing_is_a_store(self):
        for thing in ANYTHING:
            if not is_house(thing):
                self.assertIs(is_store(thing, (0,)), False)
                self.assertIs(is_store(thing, thing), False)


class Point5Leads(unittest.TestCase):
    def test_pairs_by_number(self):
        self.assertEqual(leads(TILL, 0, (3, 4)), [(0, (2, 4)), (1, (4, 3))])
        self.assertEqual(leads(TILL, 1, (3, 4)), [(0, (3, 3)), (1, (0, 5))])
        self.assertEqual(leads(TILL, 2, (3, 4)), [(0, (5, 6))])

    def test_just_nought_is_led_to_and_below_is_not(self):
        self.assertEqual(leads(TILL, 0, (1, 0)), [(0, (0, 0))])
        self.assertEqual(leads(TILL, 0, (0, 1)), [(1, (1, 0))])
        self.assertEqual(leads(TILL, 0, (0, 0)), [])
        self.assertEqual(leads(TILL, 1, (2, 0)), [])
        self.assertEqual(leads((((99, -99),), ((-1, 99),)), 0, (0, 99)), [(0, (99, 0))])
        self.assertEqual(leads((((99, -99),), ((-1, 99),)), 0, (0, 98)), [])

    def test_each_kind_counts(self):
        for kind in range(4):
            way = tuple(-1 if at == kind else 1 for at in range(4))
            bare = tuple(0 if at == kind else 5 for at in range(4))
            self.assertEqual(leads(((way,),), 0, bare), [])

    def test_equal_ways_are_told_each(self):
        self.assertEqual(leads((((-1,), (-1,), (0,)),), 0, (1,)), [(0, (0,)), (1, (0,)), (2, (1,))])

    def test_numbers_of_sixty_figures(self):
        big = 10 ** 59
        self.assertEqual(leads((((-99,), (99,)),), 0, (big,)), [(0, (big - 99,)), (1, (big + 99,))])

    def test_the_told_list_is_the_askers_own(self):
        told = leads(TILL, 0, (3, 4))
        told.append("more")
        told[0] = None
        self.assertEqual(leads(TILL, 0, (3, 4)), [(0, (2, 4)), (1, (4, 3))])

    def test_kinds_of_values(self):
        told = leads(TILL, 0, (3, 4))
        self.assertIs(type(told), list)
        for pair in told:
            self.assertIs(type(pair), tuple)
            self.assertIs(type(pair[1]), tuple)


class Point5Covers(unittest.TestCase):
    def test_covers(self):
        for store, other, told in (
            ((3,), (3,), True), ((4,), (3,), True), ((2,), (3,), False),
            ((1, 2), (1, 2), True), ((2, 2), (1, 2), True), ((1, 3), (1, 2), True),
            ((2, 1), (1, 2), False), ((1, 2), (2, 1), False), ((0, 0), (0, 1), False),
            ((1, 1, 1, 1), (1, 1, 1, 2), False), ((1, 1, 1, 2), (1, 1, 1, 1), True),
            ((5, 5, 0, 5), (0, 0, 1, 0), False),
            ((10 ** 59, 1), (10 ** 59, 1), True), ((10 ** 59, 1), (10 ** 59 + 1, 1), False),
        ):
            self.assertIs(covers(store, other), told, (store, other))


if __name__ == "__main__":
    unittest.main()
