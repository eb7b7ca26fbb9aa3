import random
import time as clock
import unittest

from everstock.asks import lasts, least
from everstock.boxes import least_within
from everstock.fates import book, keep, life, time
from everstock.houses import covers, leads
from tests import boxed, by_bits, by_words, heavy
from tests.boxed import NEVER_TAKES, ONE_ASK_WEARS, TO_AND_FRO, WEARS_OUT, changing

CHANGE = (((-1, 0), (1, -1)), ((0, -1), (-3, 1)))
# No way leads from a store with less than five.
WANTS_FIVE = (((-5, 1),), ((1, -5),))
SECONDS = 60


def small_ones(seed, many, most=6):
    """Houses and stores of them of small times, with these."""
    chance = random.Random(seed)
    for house in boxed.small_houses(seed, many):
        store = tuple(chance.randint(0, 4) for _ in house[0][0])
        t = by_words.time(house, store, most if len(store) < 4 else 3)
        if t is not None:
            yield house, store, t


class Point8Time(unittest.TestCase):
    def test_as_the_words_say(self):
        times = []
        for house, store, t in small_ones(80, 25):
            told = time(house, store)
            self.assertIs(type(told), int)
            self.assertEqual(told, t, (house, store))
            times.append((t, life(house, store) is None))
        for t in (0, 1, 2, 3, 4):
            self.assertIn((t, True), times)
            self.assertIn((t + 1, False), times)

    def test_of_what_lasts_for_ever(self):
        self.assertEqual(time(NEVER_TAKES, (0, 0)), 0)
        self.assertEqual(time(NEVER_TAKES, (10 ** 59, 3)), 0)
        self.assertEqual(time(TO_AND_FRO, (1, 0)), 1)
        for many in (1, 2, 3, 9, 15, 16):
            self.assertEqual(time(changing(many), (1, 0)), many)
            self.assertEqual(time(changing(many), (0, many)), many)
            self.assertEqual(time(changing(many), (7, 99)), many)

    def test_somewhat_beyond_sixteen(self):
        for many in (17, 18, 20, 25):
            self.assertEqual(time(changing(many), (0, many)), many)
            self.assertEqual(keep(changing(many), (1, 0)), [(0, many), (1, 0)])
            self.assertEqual(time(changing(many), (0, many - 1)), 1)
            self.assertEqual(time(WEARS_OUT, (many,)), many + 1)
            self.assertEqual(life(WEARS_OUT, (many,)), many)

    def test_of_what_does_not(self):
        self.assertEqual(time(WEARS_OUT, (0,)), 1)
        for there in (1, 2, 7, 15):
            self.assertEqual(time(WEARS_OUT, (there,)), there + 1)
            self.assertEqual(time(ONE_ASK_WEARS, (there,)), there + 1)
        self.assertEqual(time(TO_AND_FRO, (0, 0)), 1)
        self.assertEqual(time(changing(16), (0, 15)), 1)
        self.assertEqual(time(CHANGE, (0, 0)), 1)


class Point8Life(unittest.TestCase):
    def test_against_all_plays(self):
        for house, store, t in small_ones(81, 25):
            told = life(house, store)
            # What meets more asks than the time has lasts for ever.
            met = by_words.met_at_most(house, store, t + 3, {})
            self.assertEqual(told, met if met < t else None, (house, store))

    def test_of_what_lasts_for_ever(self):
        for house, store in ((NEVER_TAKES, (0, 0)), (TO_AND_FRO, (1, 0)), (changing(16), (1, 0))):
            self.assertIsNone(life(house, store))

    def test_of_what_does_not(self):
        for there in (0, 1, 2, 7, 15):
            for house in (WEARS_OUT, ONE_ASK_WEARS):
                told = life(house, (there,))
                self.assertIs(type(told), int)
                self.assertEqual(told, there)
        self.assertEqual(life(WANTS_FIVE, (4, 99)), 0)
        self.assertEqual(life((((-7,), (-3,)),), (47,)), 15)

    def test_no_ask_at_all(self):
        for house, store in ((WEARS_OUT, (0,)), (TO_AND_FRO, (0, 0)), (changing(9), (0, 8)), (WANTS_FIVE, (4, 4))):
            self.assertEqual(life(house, store), 0)

    def test_it_is_the_number_that_it_lasts(self):
        for house, store, t in small_ones(82, 10):
            told = life(house, store)
            for n in range(t + 3):
                self.assertIs(lasts(house, store, n), told is None or n <= told)


class Point8Keep(unittest.TestCase):
    def test_the_least_of_the_box_of_its_time(self):
        some = 0
        for house, store, t in small_ones(83, 20):
            told = keep(house, store)
            if life(house, store) is None:
                self.assertIs(type(told), list)
                self.assertEqual(told, by_words.least_of(by_words.within(house, t)))
                self.assertEqual(told, least_within(house, t))
                self.assertTrue(any(covers(store, one) for one in told))
                some += len(told) > 1
            else:
                self.assertIsNone(told)
        self.assertGreater(some, 10)

    def test_by_hand(self):
        self.assertEqual(keep(NEVER_TAKES, (5, 6)), [(0, 0)])
        self.assertEqual(keep(TO_AND_FRO, (1, 5)), [(0, 1), (1, 0)])
        self.assertEqual(keep(changing(16), (1, 0)), [(0, 16), (1, 0)])
        self.assertIsNone(keep(changing(16), (0, 15)))
        self.assertIsNone(keep(WEARS_OUT, (15,)))

    def test_of_each_store_the_box_of_its_own_time(self):
        house = (((-1, 1, 0, 0), (1, -1, 0, 0), (0, 0, -1, 3), (0, 0, 1, -3)),)
        for store in ((1, 0, 0, 0), (0, 1, 0, 2), (0, 7, 0, 9), (1, 1, 1, 1)):
            self.assertEqual(keep(house, store), [(0, 1, 0, 0), (1, 0, 0, 0)])
        for store in ((0, 0, 1, 0), (0, 0, 0, 3), (0, 0, 9, 9)):
            self.assertEqual(keep(house, store), [(0, 0, 0, 3), (0, 0, 1, 0), (0, 1, 0, 0), (1, 0, 0, 0)])

    def test_just_one_of_keep_and_book(self):
        for house, store, _ in small_ones(84, 20):
            lasting = life(house, store) is None
            self.assertIs(keep(house, store) is None, not lasting)
            self.assertIs(book(house, store) is None, lasting)


class Point10TheBookOf8(unittest.TestCase):
    def test_as_the_words_say(self):
        sizes = []
        for house, store, t in small_ones(100, 25):
            told = book(house, store)
            if told is not None:
                self.assertEqual(told, by_words.book(house, store, t - 1), (house, store))
                sizes.append(len(told))
        self.assertGreater(len(sizes), 40)
        self.assertGreater(max(sizes), 10)

    def test_by_hand(self):
        self.assertEqual(book(WEARS_OUT, (0,)), {(0,): (1, 0)})
        self.assertEqual(book(WEARS_OUT, (2,)), {(2,): (3, 0), (1,): (2, 0), (0,): (1, 0)})
        self.assertEqual(book(WEARS_OUT, (15,)), {(there,): (there + 1, 0) for there in range(16)})
        self.assertEqual(book(changing(16), (0, 15)), {(0, 15): (1, 0)})

    def test_the_first_ask_by_which_each_life_is_less(self):
        # By the first ask the life stays as it is.
        self.assertEqual(book(ONE_ASK_WEARS, (1,)), {(1,): (2, 1), (0,): (1, 1)})
        # By both asks it is less; the first one is told.
        self.assertEqual(book((((-1,),), ((-2,),)), (0,)), {(0,): (1, 0)})
        self.assertEqual(book((((0,), (-2,)), ((-1,),), ((-2,),)), (1,)), {(1,): (1, 2)})
        # The second way of the first ask leads to a store of the same life.
        self.assertEqual(
            book((((-1,), (0,)), ((-1,), (-2,))), (2,)), {(2,): (3, 1), (1,): (2, 1), (0,): (1, 1)})

    def test_all_stores_to_which_ways_of_these_asks_lead_and_nothing_else(self):
        told = book((((-1, 0), (0, -2)),), (1, 2))
        self.assertEqual(told, {(1, 2): (3, 0), (0, 2): (2, 0), (1, 0): (2, 0), (0, 0): (1, 0)})

    def test_lives_may_fall_by_more_than_one(self):
        told = book((((-1,), (-3,)),), (4,))
        self.assertEqual(told, {(n,): (n + 1, 0) for n in range(5)})
        told = book((((-3,), (-1,)), ((0,),)), (3,))
        self.assertEqual(told, {(n,): (n + 1, 0) for n in range(4)})

    def test_ranks_are_lives_and_one(self):
        for house, store, _ in small_ones(101, 15):
            told = book(house, store)
            if told is not None:
                self.assertIs(type(told), dict)
                self.assertIn(store, told)
                for there, pair in told.items():
                    self.assertIs(type(pair), tuple)
                    rank, i = pair
                    self.assertEqual(rank, life(house, there) + 1)
                    for _, reached in leads(house, i, there):
                        self.assertLess(told[reached][0], rank)


class Points8And10GreatTimes(unittest.TestCase):
    def test_within_seconds_and_right(self):
        for house, store, t, lasting in heavy.FATES:
            begun = clock.monotonic()
            told = (time(house, store), life(house, store), keep(house, store), book(house, store))
            self.assertLess(clock.monotonic() - begun, SECONDS)
            self.assertGreater(t, 14)
            if lasting:
                least_ones, _ = by_bits.least_and_how_many(house, t)
                self.assertGreater(len(least_ones), 50)
                self.assertEqual(told, (t, None, least_ones, None))
                before, _ = by_bits.least_and_how_many(house, t - 1)
                self.assertFalse(any(covers(store, one) for one in before))
            else:
                self.assertEqual(told[:3], (t, t - 1, None))
                lists = [least(house, n) for n in range(t + 1)]
                self.assertTrue(any(covers(store, one) for one in lists[t - 1]))
                self.assertFalse(any(covers(store, one) for one in lists[t]))
                self.check_book(house, store, told[3], lists)

    def check_book(self, house, store, told, lists):
        reached = [store]
        for there, (rank, i) in told.items():
            self.assertTrue(any(covers(there, one) for one in lists[rank - 1]))
            self.assertFalse(any(covers(there, one) for one in lists[rank]))
            for number in range(i + 1):
                wears = not any(covers(way[1], one) for way in leads(house, number, there) for one in lists[rank - 1])
                self.assertIs(wears, number == i)
            reached.extend(one for _, one in leads(house, i, there))
        self.assertEqual(set(reached), set(told))

    def test_a_book_of_many_stores(self):
        # Each ask takes one of the first kind and brings some of the others.
        brought = ((0, 0, 0), (1, 0, 0), (0, 1, 0), (0, 0, 1), (1, 1, 1))
        house = (tuple((-1,) + numbers for numbers in brought),)
        found = {(0, 0, 0)}
        expected = {}
        for there in range(15, -1, -1):
            expected.update({(there,) + numbers: (there + 1, 0) for numbers in found})
            found = {tuple(map(sum, zip(numbers, more))) for numbers in found for more in brought}
        begun = clock.monotonic()
        self.assertEqual(book(house, (15, 0, 0, 0)), expected)
        self.assertLess(clock.monotonic() - begun, SECONDS)
        self.assertGreater(len(expected), 5000)


class Points2And8NothingIsKept(unittest.TestCase):
    def test_told_lists_and_dicts_are_the_askers_own(self):
        told = keep(TO_AND_FRO, (1, 0))
        told.append("more")
        told[0] = None
        self.assertEqual(keep(TO_AND_FRO, (1, 0)), [(0, 1), (1, 0)])
        told = book(WEARS_OUT, (1,))
        told[(1,)] = None
        told["more"] = 1
        self.assertEqual(book(WEARS_OUT, (1,)), {(1,): (2, 0), (0,): (1, 0)})

    def test_the_same_for_equal_things_which_stay_as_they_were(self):
        for house, store, _ in small_ones(85, 5):
            # Made anew of their words, so that nothing of one is in the other.
            other, its = eval(repr(house)), eval(repr(store))
            for asked in (time, life, keep, book):
                self.assertEqual(asked(other, its), asked(house, store))
            self.assertEqual(repr((other, its)), repr((house, store)))


if __name__ == "__main__":
    unittest.main()
