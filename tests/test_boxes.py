import random
import time
import unittest
from itertools import permutations

from everstock.asks import lasts
from everstock.boxes import above, how_many, least_within
from everstock.houses import covers, leads
from tests import boxed, by_bits, by_words, heavy
from tests.boxed import COUNTER, COUNTER_BACK, COUNTER_THAT_LASTS, NEVER_TAKES, TO_AND_FRO, WEARS_OUT, changing

SECONDS = 60


def boxes_of(house):
    kinds = len(house[0][0])
    return {1: (0, 1, 2, 7, 20), 2: (0, 1, 2, 6, 11), 3: (0, 1, 2, 4), 4: (0, 1, 2)}[kinds]


def is_met_from_all(house, b, least_ones):
    """True where from each of the least ones each ask can be met so that one of them is covered, within b."""
    for store in least_ones:
        for i in range(len(house)):
            reached = [by_words.thrown_away(there, b) for _, there in leads(house, i, store)]
            if not any(covers(there, one) for there in reached for one in least_ones):
                return False
    return True


class Point7LeastWithin(unittest.TestCase):
    def test_as_the_words_say(self):
        some = 0
        for house in boxed.small_houses(70, 20):
            for b in boxes_of(house):
                there = by_words.within(house, b)
                self.assertEqual(least_within(house, b), by_words.least_of(there), (house, b))
                some += 0 < len(there) < (b + 1) ** len(house[0][0])
        self.assertGreater(some, 50)

    def test_the_box_nought(self):
        self.assertEqual(least_within(NEVER_TAKES, 0), [(0, 0)])
        self.assertEqual(least_within((((5, 0), (0, -1)),), 0), [(0, 0)])
        self.assertEqual(least_within(TO_AND_FRO, 0), [])
        self.assertEqual(least_within(WEARS_OUT, 0), [])

    def test_nothing_lasts(self):
        for b in (0, 1, 5, 20):
            self.assertEqual(least_within(WEARS_OUT, b), [])
            self.assertEqual(least_within((((0,),), ((-1,),)), b), [])
            self.assertEqual(least_within((((-1, 1),), ((1, -1),)), b), [])

    def test_all_last(self):
        for b in (0, 1, 5, 20):
            self.assertEqual(least_within(NEVER_TAKES, b), [(0, 0)])
            self.assertEqual(least_within((((0, 0, 0, 0),),), b), [(0, 0, 0, 0)])

    def test_what_is_more_is_thrown_away(self):
        for many in (2, 3, 11, 20):
            for b in range(21):
                told = [(0, many), (1, 0)] if b >= many else []
                self.assertEqual(least_within(changing(many), b), told)
        self.assertEqual(least_within(changing(21), 20), [])

    def test_behind_each_ask_is_thrown_away_not_ahead_of_it(self):
        # The way brings a second thing and takes one: with one there it can be gone for ever.
        self.assertEqual(least_within((((1, -1), (-1, 99)),), 1), [(0, 1), (1, 0)])
        self.assertEqual(least_within((((-2,), (1,)),), 1), [(0,)])
        self.assertEqual(least_within((((-2, 0), (1, -1)),), 1), [])

    def test_to_and_fro(self):
        for b in (1, 2, 20):
            self.assertEqual(least_within(TO_AND_FRO, b), [(0, 1), (1, 0)])

    def test_each_kind_by_itself(self):
        for kind, other in permutations(range(4), 2):
            def of_both(number, others):
                return tuple({kind: number, other: others}.get(at, 0) for at in range(4))

            # One of a kind for two of another one, and back.
            house = ((of_both(-1, 2), of_both(1, -2)),)
            told = sorted([of_both(0, 2), of_both(1, 0)])
            self.assertEqual(least_within(house, 1), [])
            self.assertEqual(least_within(house, 2), told)
            self.assertEqual(how_many(house, 2), 9 * (9 - 2))
            self.assertEqual(how_many(house, 20), 21 * 21 * (21 * 21 - 2))
            self.assertEqual(above(house, 2, of_both(0, 7)), [of_both(0, 7)])

    def test_least_ones_of_many_kinds(self):
        # Each ask borrows one of a kind for one of another.
        house = (((-1, 1, 0, 0), (1, -1, 0, 0)), ((0, 0, -1, 2), (0, 0, 1, -2)))
        told = [(0, 1, 0, 2), (0, 1, 1, 0), (1, 0, 0, 2), (1, 0, 1, 0)]
        for b in (2, 3, 20):
            self.assertEqual(least_within(house, b), told)
        self.assertEqual(least_within(house, 1), [])

    def test_sorted_each_once_none_covering_another(self):
        for house in boxed.small_houses(71, 5):
            for b in boxes_of(house):
                told = least_within(house, b)
                self.assertIs(type(told), list)
                self.assertEqual(told, by_words.least_of(told))
                for store in told:
                    self.assertIs(type(store), tuple)
                    self.assertEqual(len(store), len(house[0][0]))

    def test_what_lasts_within_a_box_lasts_within_greater_ones_and_for_many_asks(self):
        for house in boxed.small_houses(72, 5):
            before = []
            for b in range(6):
                told = least_within(house, b)
                for store in before:
                    self.assertTrue(any(covers(store, one) for one in told))
                for store in told:
                    self.assertIs(lasts(house, store, 9), True)
                before = told

    def test_the_told_list_is_the_askers_own(self):
        for house in (NEVER_TAKES, WEARS_OUT, TO_AND_FRO):
            told = least_within(house, 3)
            kept = list(told)
            told.append("more")
            told[0] = None
            self.assertEqual(least_within(house, 3), kept)

    def test_the_same_for_equal_things_which_stay_as_they_were(self):
        for house in boxed.small_houses(73, 3):
            # Made anew of their words, so that nothing of one is in the other.
            other, store = eval(repr(house)), (2,) * len(house[0][0])
            self.assertEqual(least_within(other, 3), least_within(house, 3))
            self.assertEqual(how_many(other, 3), how_many(house, 3))
            self.assertEqual(above(other, 3, store), above(house, 3, store))
            self.assertEqual(repr(other), repr(house))
            self.assertEqual(store, (2,) * len(house[0][0]))


class Point7HowMany(unittest.TestCase):
    def test_as_the_words_say(self):
        for house in boxed.small_houses(74, 20):
            for b in boxes_of(house):
                told = how_many(house, b)
                self.assertIs(type(told), int)
                self.assertEqual(told, len(by_words.within(house, b)), (house, b))

    def test_nothing_lasts(self):
        for b in (0, 1, 5, 20):
            self.assertEqual(how_many(WEARS_OUT, b), 0)

    def test_all_last(self):
        for b in (0, 1, 5, 20):
            for kinds in (1, 2, 3, 4):
                self.assertEqual(how_many((((0,) * kinds,),), b), (b + 1) ** kinds)

    def test_some_last(self):
        # All with one of the first kind, and of the others those with twenty of the second.
        self.assertEqual(how_many(changing(20), 20), 20 * 21 + 1)
        self.assertEqual(how_many(changing(20), 19), 0)
        self.assertEqual(how_many(TO_AND_FRO, 20), 21 * 21 - 1)


class Point7Above(unittest.TestCase):
    def test_as_the_words_say(self):
        chance = random.Random(75)
        for house in boxed.small_houses(75, 10):
            for b in boxes_of(house)[:3]:
                there = by_words.least_of(by_words.within(house, b))
                for _ in range(5):
                    store = tuple(chance.randint(0, b + 3) for _ in house[0][0])
                    told = by_words.least_of(tuple(map(max, store, one)) for one in there)
                    self.assertEqual(above(house, b, store), told, (house, b, store))

    def test_of_a_store_that_covers_none(self):
        self.assertEqual(above(TO_AND_FRO, 5, (0, 0)), [(0, 1), (1, 0)])
        self.assertEqual(above(changing(4), 5, (0, 3)), [(0, 4), (1, 3)])

    def test_of_a_store_that_covers_one(self):
        self.assertEqual(above(TO_AND_FRO, 5, (3, 0)), [(3, 0)])
        self.assertEqual(above(TO_AND_FRO, 5, (3, 2)), [(3, 2)])
        self.assertEqual(above(NEVER_TAKES, 0, (0, 0)), [(0, 0)])

    def test_of_a_store_beyond_the_box(self):
        self.assertEqual(above(changing(4), 5, (0, 99)), [(0, 99)])
        self.assertEqual(above((((0, -2), (0, 2)),), 2, (10 ** 59, 0)), [(10 ** 59, 0)])
        house = (((-1, 1, 0, 0), (1, -1, 0, 0)), ((0, 0, -1, 2), (0, 0, 1, -2)))
        self.assertEqual(
            above(house, 2, (0, 0, 0, 9)), [(0, 1, 0, 9), (1, 0, 0, 9)])
        self.assertEqual(
            above(house, 2, (0, 0, 0, 1)), [(0, 1, 0, 2), (0, 1, 1, 1), (1, 0, 0, 2), (1, 0, 1, 1)])

    def test_where_nothing_lasts(self):
        for store in ((0,), (20,), (10 ** 59,)):
            self.assertEqual(above(WEARS_OUT, 20, store), [])

    def test_the_told_list_is_the_askers_own(self):
        told = above(TO_AND_FRO, 5, (0, 0))
        told.append("more")
        told[0] = None
        self.assertEqual(above(TO_AND_FRO, 5, (0, 0)), [(0, 1), (1, 0)])


class Point7GreatBoxes(unittest.TestCase):
    def setUp(self):
        self.begun = time.monotonic()

    def tearDown(self):
        self.assertLess(time.monotonic() - self.begun, SECONDS)

    def test_so_many_asks_until_nothing_changes(self):
        for house in (COUNTER, COUNTER_BACK):
            self.assertEqual(least_within(house, 20), [])
            self.assertEqual(how_many(house, 20), 0)
            self.assertEqual(above(house, 20, (20, 20, 20, 20)), [])

    def test_so_many_asks_until_something_is_left(self):
        told = [(0, 0, 0, 1), (0, 0, 1, 0)]
        self.assertEqual(least_within(COUNTER_THAT_LASTS, 20), told)
        self.assertEqual(how_many(COUNTER_THAT_LASTS, 20), 21 * 21 * (21 * 21 - 1))
        self.assertEqual(above(COUNTER_THAT_LASTS, 20, (20, 20, 0, 0)), [(20, 20, 0, 1), (20, 20, 1, 0)])

    def test_up_to_sixty_least_ones(self):
        for house in heavy.BOXES[:2]:
            told = least_within(house, 20)
            self.assertEqual((told, how_many(house, 20)), by_bits.least_and_how_many(house, 20))
            self.assertGreater(len(told), 50)
            self.assertTrue(is_met_from_all(house, 20, told))
            self.assertEqual(above(house, 20, (20, 20, 20, 99)), [(20, 20, 20, 99)])

    def test_up_to_sixty_least_ones_until_nothing_is_left(self):
        self.assertEqual(least_within(heavy.BOXES[2], 20), [])
        self.assertEqual(how_many(heavy.BOXES[2], 20), 0)

    def test_as_gone_through_store_by_store(self):
        for house in boxed.small_houses(76, 2):
            for b in (8, 20) if len(house[0][0]) < 4 else (5, 9):
                told = (least_within(house, b), how_many(house, b))
                self.assertEqual(told, by_bits.least_and_how_many(house, b), (house, b))


if __name__ == "__main__":
    unittest.main()
