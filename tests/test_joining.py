import random
import unittest

from everstock.asks import least
from everstock.fates import life
from everstock.houses import is_house
from everstock.joining import beside, times, together
from tests import boxed, by_words
from tests.boxed import NEVER_TAKES, ONE_ASK_WEARS, TO_AND_FRO, WEARS_OUT, changing


def houses_and_stores(seed, many, most_kinds):
    """Houses with a store of each, and the number of asks up to 6 that it lasts."""
    chance = random.Random(seed)
    for house in boxed.small_houses(seed, many):
        if len(house[0][0]) <= most_kinds:
            store = tuple(chance.randint(0, 4) for _ in house[0][0])
            yield house, store, asks_lasted(house, store)


def asks_lasted(house, store):
    return max(n for n in range(7) if by_words.lasts(house, store, n))


def pairs_of(rows):
    rows = list(rows)
    return list(zip(rows[::2], rows[1::2]))


class Point14Together(unittest.TestCase):
    def test_the_asks_of_one_and_of_the_other(self):
        self.assertEqual(together(TO_AND_FRO, NEVER_TAKES), TO_AND_FRO + NEVER_TAKES)
        self.assertEqual(together(WEARS_OUT, ONE_ASK_WEARS), (((-1,),), ((0,),), ((-1,),)))
        self.assertEqual(together(TO_AND_FRO, TO_AND_FRO), TO_AND_FRO * 2)

    def test_up_to_eight(self):
        for one in range(1, 8):
            told = together(changing(2) * one, changing(3) * (8 - one))
            self.assertEqual(told, changing(2) * one + changing(3) * (8 - one))
            self.assertIs(is_house(told), True)

    def test_numbers_added_last_the_lesser_number_in_both(self):
        rows = pairs_of(houses_and_stores(140, 12, 4))
        many = 0
        for (house, store, n), (other, its, m) in rows:
            if len(store) == len(its) and len(house) + len(other) <= 8:
                told = together(house, other)
                self.assertIs(is_house(told), True)
                both = tuple(one + more for one, more in zip(store, its))
                self.assertTrue(by_words.lasts(told, both, min(n, m)), (house, other, store, its))
                many += 1
        for house, store, n in houses_and_stores(141, 6, 2):
            other = changing(2) if len(store) == 2 else (((-1,), (1,)),)
            its = (1,) + (0,) * (len(store) - 1)
            if len(house) < 8:
                both = tuple(one + more for one, more in zip(store, its))
                self.assertTrue(by_words.lasts(together(house, other), both, n))
                many += 1
        self.assertGreater(many, 15)

    def test_what_lasts_in_both_together_lasts_in_each(self):
        for house, store, _ in houses_and_stores(142, 6, 2):
            other = (((-1,) * len(store), (1,) * len(store)),)
            told = together(house, other)
            n = asks_lasted(told, store)
            self.assertGreaterEqual(asks_lasted(house, store), n)
            self.assertGreaterEqual(asks_lasted(other, store), n)


class Point14Beside(unittest.TestCase):
    def test_noughts_for_the_other_ones_kinds(self):
        self.assertEqual(beside(WEARS_OUT, WEARS_OUT), (((-1, 0),), ((0, -1),)))
        self.assertEqual(
            beside(TO_AND_FRO, ONE_ASK_WEARS), (((-1, 1, 0), (1, -1, 0)), ((0, 0, 0),), ((0, 0, -1),)))
        self.assertEqual(
            beside(ONE_ASK_WEARS, TO_AND_FRO), (((0, 0, 0),), ((-1, 0, 0),), ((0, -1, 1), (0, 1, -1))))
        self.assertEqual(
            beside(changing(2), changing(3)),
            (((-1, 2, 0, 0), (1, -2, 0, 0)), ((0, 0, -1, 3), (0, 0, 1, -3))))

    def test_up_to_four_kinds_and_eight_asks(self):
        for kinds in range(1, 4):
            for one in range(1, 8):
                house = (((1,) * kinds,),) * one
                other = (((-1,) * (4 - kinds), (2,) * (4 - kinds)),) * (8 - one)
                told = beside(house, other)
                self.assertIs(is_house(told), True)
                self.assertEqual(told[:one], (((1,) * kinds + (0,) * (4 - kinds),),) * one)
                ways = ((0,) * kinds + (-1,) * (4 - kinds), (0,) * kinds + (2,) * (4 - kinds))
                self.assertEqual(told[one:], (ways,) * (8 - one))

    def test_one_behind_the_other_they_last_the_lesser_number(self):
        many = 0
        for (house, store, n), (other, its, m) in pairs_of(houses_and_stores(143, 20, 2)):
            if len(house) + len(other) <= 8:
                told = beside(house, other)
                self.assertIs(is_house(told), True)
                self.assertEqual(asks_lasted(told, store + its), min(n, m))
                many += 1
        self.assertGreater(many, 20)

    def test_for_ever_where_each_does(self):
        told = beside(changing(2), changing(3))
        self.assertIsNone(life(told, (1, 0, 0, 3)))
        self.assertEqual(life(told, (1, 0, 0, 2)), 0)
        self.assertEqual(life(told, (0, 1, 1, 0)), 0)
        self.assertEqual(life(beside(TO_AND_FRO, WEARS_OUT), (1, 0, 7)), 7)


class Point14Times(unittest.TestCase):
    def test_each_number_so_many_times(self):
        self.assertEqual(times(WEARS_OUT, 1), WEARS_OUT)
        self.assertEqual(times(WEARS_OUT, 99), (((-99,),),))
        self.assertEqual(times(changing(33), 3), (((-3, 99), (3, -99)),))
        self.assertEqual(times((((1, -2), (0, 3)), ((5, 0),)), 4), (((4, -8), (0, 12)), ((20, 0),)))
        self.assertEqual(times((((0, 0),),), 10 ** 9), (((0, 0),),))
        for m in range(1, 100):
            told = times((((1, -1), (0, 1)),) * 8, m)
            self.assertEqual(told, (((m, -m), (0, m)),) * 8)
            self.assertIs(is_house(told), True)

    def test_a_store_lasts_as_its_numbers_divided_do(self):
        chance = random.Random(144)
        for house, _, _ in houses_and_stores(144, 8, 4):
            m = chance.randint(1, 4)
            store = tuple(chance.randint(0, 3 * m) for _ in house[0][0])
            divided = tuple(number // m for number in store)
            self.assertEqual(asks_lasted(times(house, m), store), asks_lasted(house, divided))

    def test_the_least_stores_are_so_many_times_as_great(self):
        for house, _, _ in houses_and_stores(145, 6, 3):
            for m in (1, 2, 5):
                expected = [tuple(number * m for number in store) for store in least(house, 3)]
                self.assertEqual(least(times(house, m), 3), expected)


class Point2(unittest.TestCase):
    def test_nothing_handed_in_is_changed(self):
        for house, _, _ in houses_and_stores(146, 3, 2):
            before = repr(house)
            self.assertIs(type(together(house, house)), tuple)
            self.assertIs(type(beside(house, house)), tuple)
            self.assertIs(type(times(house, 2)), tuple)
            self.assertEqual(repr(house), before)


if __name__ == "__main__":
    unittest.main()
