import random
import time
import unittest

from everstock.asks import lasts, least
from everstock.houses import covers, leads
from tests import by_words

NEVER_TAKES = (((0, 0),), ((1, 0), (0, 3)))
WEARS_OUT = (((-99,), (-98,)),)
ALL_TAKEN = (((-1, -1),),)
CHANGE = (((-1, 0), (1, -1)), ((0, -1), (-3, 1)))
# Found by a search for houses that are slow to answer for.
HEAVY = (
    (((0, -5, -11, -2), (3, -19, 0, -33), (-96, -19, 0, 0), (-53, 52, -93, 93), (-68, 16, -76, 0)),
     ((81, -2, 0, -3), (0, -19, 0, -34), (-51, -52, -32, 91), (0, -56, 0, 0), (-75, -44, -24, 60)),
     ((-1, -8, 0, 0), (-98, 69, -57, 0), (-4, 0, -73, 20), (98, -59, -61, -17)),
     ((71, 5, -11, -1), (4, 0, 3, -40), (13, -44, -68, 23), (6, -50, 0, -18), (41, -35, 32, -41)),
     ((85, -5, -16, 0), (0, -19, 6, -34), (-64, -52, -32, 91), (31, -52, 49, 0), (-74, -44, -24, 60)),
     ((-50, 0, 44, 0), (-73, -11, -81, -83), (-45, 3, 88, 71), (-97, -66, 28, 0), (-21, 66, 57, -22)),
     ((0, -5, 0, -38), (5, -19, 8, -35), (0, 93, 10, -85), (41, 0, 0, -91), (-29, 5, -16, -50)),
     ((85, -5, -16, 0), (34, -19, 6, 0), (-64, -52, -35, 91), (31, -52, 17, 0), (-74, -39, -24, 60))),
    (((1, 0, -2, 0), (-2, 1, -1, 75), (22, -24, 51, 0), (68, 4, -88, -57), (1, 67, 86, -52)),
     ((-1, -1, 0, 1), (-2, 0, 0, -2), (-22, -43, 51, 0), (50, -89, 0, -46), (-27, -95, -13, -50)),
     ((-1, 0, -1, 7), (47, -53, 0, -60), (0, -1, -69, 0), (93, 35, -94, -31)),
     ((-1, 1, -2, 1), (-2, 0, 0, -1), (-22, -29, 51, 0), (-12, 71, -29, -69), (-73, 77, 65, 0)),
     ((-1, -1, 0, 1), (-1, 0, 0, -2), (22, -27, 49, -1), (66, 32, -27, 21), (-72, -79, 0, -50)),
     ((-1, 99, -2, 1), (-2, 0, 0, -2), (23, -27, 48, 0), (-56, 8, 61, 10), (-82, -47, -1, -50)),
     ((1, 0, -2, 0), (-2, 0, -1, 7), (39, 0, -54, -51), (47, 0, -72, 0), (78, -81, -48, 66)),
     ((-1, -1, -2, 1), (-2, 0, 0, -2), (-22, -43, 51, 0), (50, -89, 94, -41), (-43, -36, 22, -96))),
)
SECONDS = 60


def small_houses():
    chance = random.Random(20)
    for kinds, asks, ways, most, n in ((1, 8, 5, 5, 6), (2, 4, 4, 2, 5), (3, 4, 3, 1, 4), (4, 3, 3, 1, 2)):
        for _ in range(12):
            yield by_words.random_house(chance, kinds, asks, ways, most), n


def one_less(store):
    return [
        store[:kind] + (store[kind] - 1,) + store[kind + 1:]
        for kind in range(len(store)) if store[kind]
    ]


def meets_all(house, store, before):
    """True where each ask leads to what covers one of the least stores before."""
    return all(
        any(covers(reached, other) for _, reached in leads(house, i, store) for other in before)
        for i in range(len(house))
    )


class Point6Lasts(unittest.TestCase):
    def test_nought_asks_are_lasted_by_every_store(self):
        for house in (WEARS_OUT, NEVER_TAKES, CHANGE, ALL_TAKEN) + HEAVY:
            self.assertIs(lasts(house, (0,) * len(house[0][0]), 0), True)

    def test_one_kind(self):
        for there, n, told in ((98, 1, True), (97, 1, False), (195, 2, False), (196, 2, True),
                               (1959, 20, False), (1960, 20, True), (0, 1, False)):
            self.assertIs(lasts(WEARS_OUT, (there,), n), told, (there, n))

    def test_ways_that_never_take(self):
        for n in (0, 1, 5, 20):
            self.assertIs(lasts(NEVER_TAKES, (0, 0), n), True)

    def test_each_ask_must_be_met(self):
        house = (((-1, 0),), ((0, -1),))
        self.assertIs(lasts(house, (5, 0), 1), False)
        self.assertIs(lasts(house, (0, 5), 1), False)
        self.assertIs(lasts(house, (1, 1), 1), True)
        self.assertIs(lasts(house, (1, 9), 2), False)

    def test_one_way_is_enough(self):
        house = (((-9, 0), (0, -1)),)
        self.assertIs(lasts(house, (0, 3), 3), True)
        self.assertIs(lasts(house, (0, 3), 4), False)
        self.assertIs(lasts(house, (9, 3), 4), True)

    def test_as_the_words_say(self):
        chance = random.Random(6)
        for house, most in small_houses():
            known = {}
            for _ in range(20):
                store = tuple(chance.randint(0, 6) for _ in house[0][0])
                for n in range(most + 1):
                    self.assertIs(lasts(house, store, n), by_words.lasts(house, store, n, known))

    def test_numbers_of_sixty_figures(self):
        self.assertIs(lasts(ALL_TAKEN, (10 ** 59, 10 ** 59), 20), True)
        self.assertIs(lasts(ALL_TAKEN, (10 ** 59, 19), 20), False)

    def test_just_where_one_of_the_least_is_covered(self):
        chance = random.Random(7)
        for house, most in small_houses():
            for n in range(most + 1):
                told = least(house, n)
                for _ in range(10):
                    store = tuple(chance.randint(0, 9) for _ in house[0][0])
                    self.assertIs(lasts(house, store, n), any(covers(store, one) for one in told))


class Point6Least(unittest.TestCase):
    def test_nought_asks(self):
        for house in (WEARS_OUT, NEVER_TAKES, CHANGE) + HEAVY:
            self.assertEqual(least(house, 0), [(0,) * len(house[0][0])])

    def test_one_kind(self):
        for n in (0, 1, 7, 20):
            self.assertEqual(least(WEARS_OUT, n), [(98 * n,)])

    def test_ways_that_never_take(self):
        for n in (0, 1, 5, 20):
            self.assertEqual(least(NEVER_TAKES, n), [(0, 0)])

    def test_what_nothing_lasts_long(self):
        for n in (0, 1, 5, 20):
            self.assertEqual(least(ALL_TAKEN, n), [(n, n)])

    def test_several_least_ones(self):
        self.assertEqual(least((((-1, 0), (0, -1)),), 3), [(0, 3), (1, 2), (2, 1), (3, 0)])
        self.assertEqual(least((((-1, 0), (0, -1)),), 20), [(k, 20 - k) for k in range(21)])

    def test_by_hand(self):
        # Ask 0 wants (1, 0) or (0, 1), ask 1 wants (0, 1) or (3, 0).
        self.assertEqual(least(CHANGE, 1), [(0, 1), (3, 0)])

    def test_what_a_way_brings_is_not_there_before_it(self):
        self.assertEqual(least((((5, -2),),), 1), [(0, 2)])
        self.assertEqual(least((((5, -2),), ((-5, 2),)), 1), [(5, 2)])

    def test_as_the_words_say(self):
        for house, most in small_houses():
            for n in range(most + 1):
                self.assertEqual(least(house, n), by_words.least(house, n), (house, n))

    def test_each_list_is_above_the_one_before_and_stays_once_they_are_alike(self):
        for house, _ in small_houses():
            lists = [least(house, n) for n in range(21)]
            for at in range(20):
                for store in lists[at + 1]:
                    self.assertTrue(any(covers(store, one) for one in lists[at]))
                if lists[at] == lists[at + 1]:
                    self.assertEqual(lists[at], lists[20])

    def test_sorted_each_once_none_covering_another(self):
        for house in [house for house, _ in small_houses()] + list(HEAVY):
            told = least(house, 6)
            self.assertIs(type(told), list)
            self.assertEqual(told, sorted(set(told)))
            for store in told:
                self.assertIs(type(store), tuple)
                self.assertEqual([one for one in told if covers(store, one)], [store])

    def test_the_told_list_is_the_askers_own(self):
        for n in (0, 3):
            told = least(CHANGE, n)
            kept = list(told)
            told.append("more")
            told[0] = None
            self.assertEqual(least(CHANGE, n), kept)

    def test_the_same_for_equal_things_which_stay_as_they_were(self):
        for house, n in small_houses():
            # Made anew of their words, so that nothing of one is in the other.
            other, store = eval(repr(house)), (3,) * len(house[0][0])
            self.assertEqual(least(other, n), least(house, n))
            self.assertIs(lasts(other, store, n), lasts(house, store, n))
            self.assertEqual(repr(other), repr(house))
            self.assertEqual(store, (3,) * len(house[0][0]))


class Point6TwentyAsks(unittest.TestCase):
    def test_within_seconds_and_right_at_each_number(self):
        chance = random.Random(60)
        for house in HEAVY:
            begun = time.monotonic()
            last = least(house, 20)
            self.assertLess(time.monotonic() - begun, SECONDS)
            self.assertGreater(len(last), 30)
            before = least(house, 19)
            for store in last:
                self.assertTrue(meets_all(house, store, before))
                for less in one_less(store):
                    self.assertFalse(meets_all(house, less, before))
            for _ in range(300):
                store = tuple(chance.randint(0, 2 * max(one[kind] for one in last)) for kind in range(4))
                told = any(covers(store, one) for one in last)
                self.assertEqual(meets_all(house, store, before), told)

    def test_lasts_within_seconds(self):
        for house in HEAVY:
            one = least(house, 20)[0]
            begun = time.monotonic()
            self.assertIs(lasts(house, one, 20), True)
            for less in one_less(one):
                self.assertIs(lasts(house, less, 20), False)
            self.assertLess(time.monotonic() - begun, SECONDS)


if __name__ == "__main__":
    unittest.main()
