import random
import time
import unittest

from everstock.boxes import least_within
from everstock.errors import NoAsk, NoGuide
from everstock.fates import keep, life
from everstock.houses import covers, leads
from everstock.keeps import guide, guided, is_guide, is_keep
from tests import boxed, by_words, heavy
from tests.boxed import NEVER_TAKES, ODD, ONE_ASK_WEARS, TO_AND_FRO, WEARS_OUT, changing
from tests.things import ANYTHING

# A thing of the first kind for two of the second, by the one ask or by the other.
TWO_ASKS = (((-1, 2), (1, -2), (0, 0)), ((1, -2), (-1, 2)))
TWO_KEEP = [(0, 2), (1, 0)]
TWO_GUIDE = {
    ((0, 2), 0): (1, (1, 0)), ((0, 2), 1): (0, (1, 0)),
    ((1, 0), 0): (0, (0, 2)), ((1, 0), 1): (1, (0, 2)),
}
SECONDS = 60


def lasting_ones(seed, many, most=5):
    """Houses, stores of them that last for ever, and their keeps."""
    chance = random.Random(seed)
    for house in boxed.small_houses(seed, many):
        store = tuple(chance.randint(0, 4) for _ in house[0][0])
        t = by_words.time(house, store, most if len(store) < 4 else 3)
        if t is not None and life(house, store) is None:
            yield house, store, keep(house, store)


class Point9IsKeep(unittest.TestCase):
    def told(self, house, store, thing, told):
        before = repr(thing)
        self.assertIs(is_keep(house, store, thing), told, (house, store, thing))
        self.assertEqual(repr(thing), before)

    def as_words(self, house, store, thing):
        self.told(house, store, thing, by_words.is_keep(house, store, thing))

    def test_told_keeps_hold(self):
        many = 0
        for house, store, kept in lasting_ones(90, 15):
            self.told(house, store, kept, True)
            many += 1
        self.assertGreater(many, 30)

    def test_keeps_of_other_boxes(self):
        for house, store, kept in lasting_ones(91, 10):
            for b in range(6 if len(store) < 4 else 4):
                there = least_within(house, b)
                self.told(house, store, there, any(covers(store, one) for one in there))

    def test_by_hand(self):
        self.told(TWO_ASKS, (1, 0), TWO_KEEP, True)
        self.told(TWO_ASKS, (0, 2), TWO_KEEP, True)
        self.told(TWO_ASKS, (7, 9), TWO_KEEP, True)
        self.told(TWO_ASKS, (0, 1), TWO_KEEP, False)
        self.told(WEARS_OUT, (5,), [(5,)], False)
        self.told(WEARS_OUT, (5,), [(n,) for n in range(6)], False)
        self.told(ONE_ASK_WEARS, (5,), [(5,)], False)
        self.told(NEVER_TAKES, (0, 0), [(0, 0)], True)

    def test_a_store_less_more_otherwise_or_twice(self):
        self.told(TWO_ASKS, (1, 0), [(1, 0)], False)
        self.told(TWO_ASKS, (1, 0), [(0, 2)], False)
        self.told(TWO_ASKS, (1, 0), [], False)
        self.told(NEVER_TAKES, (0, 0), [], False)
        self.told(TWO_ASKS, (1, 0), [(1, 0), (0, 2)], True)
        self.told(TWO_ASKS, (1, 0), [(1, 0), (0, 2), (1, 0)], True)
        self.told(TWO_ASKS, (1, 0), [(0, 2), (1, 0), (5, 5)], True)
        self.told(TWO_ASKS, (1, 0), [(0, 2), (1, 0), (0, 0)], False)
        self.told(TWO_ASKS, (1, 0), [(0, 2), (1, 0), (0, 1)], False)
        self.told(TWO_ASKS, (1, 0), [(0, 3), (1, 0)], False)
        self.told(TWO_ASKS, (1, 1), [(0, 3), (1, 1)], True)
        self.told(TWO_ASKS, (1, 0), [(0, 3), (1, 1)], False)
        self.told(TWO_ASKS, (1, 0), [(1, 0), (0, 10 ** 59)], False)
        self.told(TWO_ASKS, (10 ** 59, 0), [(10 ** 59, 0), (10 ** 59 - 1, 2)], True)

    def test_of_another_house(self):
        self.told(changing(2), (1, 0), TWO_KEEP, True)
        self.told(changing(3), (1, 0), TWO_KEEP, False)
        self.told(WEARS_OUT, (1,), TWO_KEEP, False)
        self.told(TWO_ASKS + (((0, -1),),), (1, 0), TWO_KEEP, False)

    def test_lists_for_tuples_and_tuples_for_lists(self):
        self.told(TWO_ASKS, (1, 0), tuple(TWO_KEEP), False)
        self.told(TWO_ASKS, (1, 0), [[0, 2], [1, 0]], False)
        self.told(TWO_ASKS, (1, 0), [(0, 2), [1, 0]], False)
        self.told(TWO_ASKS, (1, 0), {one: 0 for one in TWO_KEEP}, False)
        self.told(TWO_ASKS, (1, 0), [TWO_KEEP], False)

    def test_truths_for_numbers(self):
        self.told(TWO_ASKS, (1, 0), [(0, 2), (True, 0)], False)
        self.told(TWO_ASKS, (1, 0), [(False, 2), (1, 0)], False)
        self.told(TWO_ASKS, (1, 0), [(0, 2), (1, 0), (1, True)], False)
        self.told(NEVER_TAKES, (0, 0), [(False, False)], False)

    def test_parts_changed(self):
        for house, store, kept in [(TWO_ASKS, (1, 0), TWO_KEEP), (NEVER_TAKES, (0, 3), [(0, 0)])]:
            for thing in boxed.parts_changed(kept, ODD):
                self.as_words(house, store, thing)

    def test_keeps_made_at_random(self):
        chance, told = random.Random(92), []
        for house, store, kept in lasting_ones(92, 8):
            for _ in range(20):
                thing = kept + [tuple(chance.randint(0, 6) for _ in store) for _ in range(chance.randint(0, 3))]
                thing.pop(chance.randrange(len(thing)))
                chance.shuffle(thing)
                self.as_words(house, store, thing)
                told.append(is_keep(house, store, thing))
        self.assertGreater(told.count(True), 50)
        self.assertGreater(told.count(False), 50)

    def test_of_anything_just_true_or_false(self):
        for thing in ANYTHING:
            for house, store in ((TWO_ASKS, (1, 0)), (WEARS_OUT, (3,)), ((((0,) * 4,),), (0,) * 4)):
                self.as_words(house, store, thing)
                self.as_words(house, store, [thing])
                self.as_words(house, store, [store, thing])
        self.told((((0,),),), (1,), [(1,), (True,)], False)
        self.told((((0,),),), (1,), [(1,)], True)

    def test_of_no_house_and_of_no_store_nothing_holds(self):
        for thing in ANYTHING:
            self.told(thing, (1, 0), TWO_KEEP, False)
            self.told(TWO_ASKS, thing, TWO_KEEP, by_words.is_store(TWO_ASKS, thing))

    def test_a_thousand_things(self):
        house = (((-1, 1), (1, -1), (0, 0), (1, 1), (0, -1)),) * 8
        thing = [(n, 320 - n) for n in range(321)]
        self.told(house, (5, 320), thing, True)
        self.told(house, (5, 5), thing, False)
        self.told((((-1, 2), (2, -1)),) * 8, (5, 320), thing, True)
        self.told((((-1, 0), (0, -1)),) * 8, (5, 320), thing, False)
        self.told((((0,) * 2,),) * 8, (0, 0), [(0, 0)] * 333, True)


class Point9IsGuide(unittest.TestCase):
    def told(self, house, store, thing, told):
        before = repr(thing)
        self.assertIs(is_guide(house, store, thing), told, (house, store, thing))
        self.assertEqual(repr(thing), before)

    def as_words(self, house, store, thing):
        self.told(house, store, thing, by_words.is_guide(house, store, thing))

    def changed(self, key, told):
        return {**TWO_GUIDE, key: told}

    def test_told_guides_hold(self):
        for house, store, kept in lasting_ones(93, 15):
            told = guide(house, store)
            self.told(house, store, told, True)
            for one in kept:
                self.told(house, one, told, True)

    def test_by_hand(self):
        for store in ((0, 2), (1, 0), (7, 9)):
            self.told(TWO_ASKS, store, TWO_GUIDE, True)
        for store in ((0, 0), (0, 1)):
            self.told(TWO_ASKS, store, TWO_GUIDE, False)
        self.told(TWO_ASKS, (1, 0), {}, False)
        self.told(NEVER_TAKES, (0, 0), {}, False)
        self.told(NEVER_TAKES, (0, 0), {((0, 0), 0): (0, (0, 0)), ((0, 0), 1): (1, (0, 0))}, True)
        self.told(WEARS_OUT, (1,), {((1,), 0): (0, (0,))}, False)
        self.told(WEARS_OUT, (1,), {((1,), 0): (0, (0,)), ((0,), 0): (0, (0,))}, False)
        self.told(WEARS_OUT, (1,), {((1,), 0): (0, (1,))}, False)

    def test_a_pair_less(self):
        for key in TWO_GUIDE:
            self.told(TWO_ASKS, (1, 0), {k: v for k, v in TWO_GUIDE.items() if k != key}, False)

    def test_a_pair_more(self):
        self.told(TWO_ASKS, (1, 0), self.changed(((1, 0), 2), (0, (0, 2))), False)
        self.told(TWO_ASKS, (1, 0), self.changed(((1, 0), -1), (0, (0, 2))), False)
        self.told(TWO_ASKS, (1, 0), self.changed(((5, 5), 0), (2, (1, 0))), False)
        more = self.changed(((5, 5), 0), (2, (1, 0)))
        self.told(TWO_ASKS, (1, 0), {**more, ((5, 5), 1): (0, (0, 2))}, True)
        self.told(TWO_ASKS, (1, 0), {**more, ((5, 5), 1): (0, (0, 3))}, False)
        for odd in ODD:
            if boxed.is_key(odd):
                self.told(TWO_ASKS, (1, 0), self.changed(odd, (0, (0, 2))), False)

    def test_a_way_otherwise(self):
        self.told(TWO_ASKS, (1, 0), self.changed(((1, 0), 0), (1, (0, 2))), False)
        self.told(TWO_ASKS, (1, 0), self.changed(((1, 0), 0), (2, (0, 2))), False)
        self.told(TWO_ASKS, (1, 0), self.changed(((1, 0), 0), (2, (1, 0))), True)
        for way in (3, -1, 10 ** 59, True, False, None, "0", (0,), [0]):
            self.told(TWO_ASKS, (1, 0), self.changed(((1, 0), 0), (way, (0, 2))), False)

    def test_a_way_by_its_number_from_behind_is_none(self):
        house = (((0,), (0,)),)
        for way, told in ((0, True), (1, True), (2, False), (-1, False), (-2, False)):
            self.told(house, (0,), {((0,), 0): (way, (0,))}, told)

    def test_a_store_otherwise(self):
        for store in ((1, 0), (0, 1), (0, 3), (0, 0), (0, 2, 0), (0,), (), [0, 2], (False, 2), (0, 2.5), "02"):
            self.told(TWO_ASKS, (1, 0), self.changed(((1, 0), 0), (0, store)), False)
        # Led to is what covers it, but it is no first one.
        self.told(NEVER_TAKES, (5, 5), {((5, 5), 0): (0, (0, 0)), ((5, 5), 1): (0, (5, 5))}, False)
        self.told(NEVER_TAKES, (5, 5), {((5, 5), 0): (0, (5, 5)), ((5, 5), 1): (0, (5, 5))}, True)

    def test_a_way_that_leads_to_none(self):
        house = (((-1, 1), (1, 0)),)
        self.told(house, (0, 0), {((0, 0), 0): (0, (0, 0))}, False)
        self.told(house, (0, 0), {((0, 0), 0): (1, (0, 0))}, True)

    def test_of_another_house(self):
        self.told(changing(2), (1, 0), TWO_GUIDE, False)
        self.told((TWO_ASKS[1], TWO_ASKS[0]), (1, 0), TWO_GUIDE, False)
        self.told(TWO_ASKS + (((0, 0),),), (1, 0), TWO_GUIDE, False)
        self.told(WEARS_OUT, (1,), TWO_GUIDE, False)

    def test_lists_truths_and_pairs_in_no_dict(self):
        self.told(TWO_ASKS, (1, 0), list(TWO_GUIDE.items()), False)
        self.told(TWO_ASKS, (1, 0), tuple(TWO_GUIDE.items()), False)
        self.told(TWO_ASKS, (1, 0), self.changed(((1, 0), 0), [0, (0, 2)]), False)
        self.told(TWO_ASKS, (1, 0), self.changed(((1, 0), 0), (0, (0, 2), 0)), False)
        self.told(TWO_ASKS, (1, 0), self.changed(((1, 0), 0), (0,)), False)
        rest = {k: v for k, v in TWO_GUIDE.items() if k != ((1, 0), 1)}
        self.told(TWO_ASKS, (1, 0), {**rest, ((1, 0), 1): (1, (0, 2))}, True)
        self.told(TWO_ASKS, (1, 0), {**rest, ((1, 0), True): (1, (0, 2))}, False)
        self.told(TWO_ASKS, (1, 0), {**rest, ((True, 0), 1): (1, (0, 2))}, False)
        self.told(TWO_ASKS, (1, 0), {**rest, ((1, False), 1): (1, (0, 2))}, False)
        self.told(TWO_ASKS, (1, 0), {**rest, ((1, 0), 1, 0): (1, (0, 2))}, False)

    def test_parts_changed(self):
        for house, store, told in (
            (TWO_ASKS, (1, 0), TWO_GUIDE),
            (NEVER_TAKES, (0, 3), {((0, 0), 0): (0, (0, 0)), ((0, 0), 1): (1, (0, 0))}),
        ):
            for thing in boxed.parts_changed(told, ODD):
                self.as_words(house, store, thing)

    def test_guides_made_at_random(self):
        chance, told = random.Random(94), []
        for house, store, kept in lasting_ones(94, 8):
            made = guide(house, store)
            for _ in range(20):
                thing = dict(made)
                for key in chance.sample(list(made), min(2, len(made))):
                    thing[key] = (chance.randrange(len(house[key[1]])), chance.choice(kept))
                self.as_words(house, store, thing)
                told.append(is_guide(house, store, thing))
        self.assertGreater(told.count(True), 50)
        self.assertGreater(told.count(False), 50)

    def test_of_anything_just_true_or_false(self):
        for thing in ANYTHING:
            self.told(TWO_ASKS, (1, 0), thing, False)
            self.told(TWO_ASKS, (1, 0), {0: thing}, False)
            for key in TWO_GUIDE:
                self.told(TWO_ASKS, (1, 0), self.changed(key, thing), False)
                self.told(TWO_ASKS, (1, 0), self.changed(key, (0, thing)), thing == (0, 2) and key[0] == (1, 0))
            if boxed.is_key(thing):
                for key in (thing, (thing, 0), ((1, 0), thing), (thing, thing)):
                    if key not in TWO_GUIDE:
                        self.told(TWO_ASKS, (1, 0), self.changed(key, (0, (0, 2))), False)

    def test_of_no_house_and_of_no_store_nothing_holds(self):
        for thing in ANYTHING:
            self.told(thing, (1, 0), TWO_GUIDE, False)
            self.told(TWO_ASKS, thing, TWO_GUIDE, by_words.is_store(TWO_ASKS, thing))


class Point9Guide(unittest.TestCase):
    def test_as_the_words_say(self):
        many = 0
        for house, store, kept in lasting_ones(95, 15):
            told = guide(house, store)
            self.assertIs(type(told), dict)
            self.assertEqual(told, by_words.guide(house, kept))
            many += 1
        self.assertGreater(many, 30)

    def test_the_first_way_and_the_first_store(self):
        self.assertEqual(guide(changing(2), (1, 0)), {
            ((0, 2), 0): (1, (1, 0)), ((1, 0), 0): (0, (0, 2))})
        self.assertEqual(guide(NEVER_TAKES, (4, 5)), {((0, 0), 0): (0, (0, 0)), ((0, 0), 1): (0, (0, 0))})
        # From (1, 0) the way leads to what covers both; (0, 1) is sorted ahead.
        house = (((0, 1), (-1, 1), (1, -1)), ((-1, 1), (1, -1)))
        self.assertEqual(guide(house, (1, 0)), {
            ((0, 1), 0): (0, (0, 1)), ((0, 1), 1): (1, (1, 0)),
            ((1, 0), 0): (0, (0, 1)), ((1, 0), 1): (0, (0, 1))})

    def test_none_where_the_store_does_not_last(self):
        for house, store in ((WEARS_OUT, (15,)), (changing(16), (0, 15)), (TO_AND_FRO, (0, 0))):
            self.assertIsNone(guide(house, store))

    def test_the_told_dict_is_the_askers_own(self):
        told = guide(changing(2), (1, 0))
        told[((1, 0), 0)] = None
        told["more"] = 1
        self.assertEqual(guide(changing(2), (1, 0)), {((0, 2), 0): (1, (1, 0)), ((1, 0), 0): (0, (0, 2))})


def follow(house, store, told, asks):
    """The ways by which the guide meets the asks, seen to be ways that the store can go."""
    first = sorted(first for first, _ in told if covers(store, first))[0]
    there, ways = store, []
    for i in asks:
        way, first = told[first, i]
        there = dict(leads(house, i, there))[way]
        ways.append(way)
    return ways


class Point9Guided(unittest.TestCase):
    def test_by_told_guides(self):
        chance = random.Random(96)
        for house, store, kept in lasting_ones(96, 15):
            told = guide(house, store)
            for many in (0, 1, 2, 50):
                asks = [chance.randrange(len(house)) for _ in range(many)]
                before = repr((told, asks))
                ways = guided(house, store, told, asks)
                self.assertIs(type(ways), list)
                self.assertEqual(ways, follow(house, store, told, asks))
                self.assertEqual(repr((told, asks)), before)

    def test_no_asks(self):
        self.assertEqual(guided(TWO_ASKS, (1, 0), TWO_GUIDE, []), [])

    def test_by_hand(self):
        self.assertEqual(guided(TWO_ASKS, (1, 0), TWO_GUIDE, [0]), [0])
        self.assertEqual(guided(TWO_ASKS, (1, 0), TWO_GUIDE, [0, 0, 1, 1, 1, 0]), [0, 1, 1, 0, 1, 1])

    def test_from_the_covered_first_store_that_is_sorted_ahead(self):
        # Both first stores are covered: it begins from (0, 2), however the dict is ordered.
        for order in (list(TWO_GUIDE), list(TWO_GUIDE)[::-1]):
            told = {key: TWO_GUIDE[key] for key in order}
            self.assertEqual(guided(TWO_ASKS, (5, 5), told, [0, 1]), [1, 1])
        self.assertEqual(guided(TWO_ASKS, (5, 1), TWO_GUIDE, [0, 1]), [0, 0])

    def test_what_is_there_more_is_not_looked_at(self):
        told = {((0,), 0): (0, (0,)), ((2,), 0): (1, (0,))}
        house = (((0,), (1,)),)
        self.assertEqual(guided(house, (1,), told, [0, 0]), [0, 0])
        # Led to is (3,), which covers (2,), too; it goes on from the pair's (0,).
        told = {((1,), 0): (1, (0,)), ((0,), 0): (1, (1,)), ((2,), 0): (0, (2,))}
        self.assertEqual(guided(house, (9,), {**told}, [0, 0, 0]), [1, 1, 1])

    def test_by_other_guides_that_hold(self):
        told = {((5, 0), 0): (2, (5, 0)), ((5, 0), 1): (1, (4, 2)),
                ((4, 2), 0): (1, (5, 0)), ((4, 2), 1): (0, (5, 0))}
        self.assertEqual(guided(TWO_ASKS, (5, 0), told, [0, 0, 1, 1, 0]), [2, 2, 1, 0, 2])
        self.assertEqual(guided(TWO_ASKS, (5, 2), told, [0, 0, 1, 1, 0]), [1, 2, 1, 0, 2])

    def test_no_guide(self):
        for thing in ANYTHING + (None, {}, list(TWO_GUIDE.items())):
            with self.assertRaises(NoGuide):
                guided(TWO_ASKS, (1, 0), thing, [])
        for thing in boxed.parts_changed(TWO_GUIDE, ODD):
            if not by_words.is_guide(TWO_ASKS, (1, 0), thing):
                with self.assertRaises(NoGuide):
                    guided(TWO_ASKS, (1, 0), thing, [0])

    def test_no_guide_that_holds_for_the_store(self):
        for store in ((0, 0), (0, 1)):
            with self.assertRaises(NoGuide):
                guided(TWO_ASKS, store, TWO_GUIDE, [0])

    def test_no_ask(self):
        for thing in ANYTHING + (2, 3, -1, -2, True, False, "0", 10 ** 59):
            if type(thing) is int and thing in (0, 1):
                continue
            for asks in ([thing], [0, 1, thing], [thing, 0], [1, thing, None, "later", 7]):
                before = repr(asks)
                with self.assertRaises(NoAsk) as caught:
                    guided(TWO_ASKS, (1, 0), TWO_GUIDE, asks)
                self.assertEqual(caught.exception.number, thing)
                self.assertIs(type(caught.exception.number), type(thing))
                self.assertEqual(repr(asks), before)

    def test_no_guide_goes_ahead_of_no_ask(self):
        for thing in (None, {}, [], TWO_KEEP):
            with self.assertRaises(NoGuide):
                guided(TWO_ASKS, (1, 0), thing, [9, None])
        with self.assertRaises(NoGuide):
            guided(TWO_ASKS, (0, 0), TWO_GUIDE, [9])

    def test_the_told_list_is_the_askers_own(self):
        told = guided(TWO_ASKS, (1, 0), TWO_GUIDE, [0, 1])
        told.append("more")
        self.assertEqual(guided(TWO_ASKS, (1, 0), TWO_GUIDE, [0, 1]), [0, 0])


class Point9GreatTimes(unittest.TestCase):
    def test_within_seconds_and_right(self):
        chance = random.Random(97)
        for house, store, _, lasting in heavy.FATES:
            begun = time.monotonic()
            told = guide(house, store)
            if lasting:
                kept = keep(house, store)
                self.assertIs(is_keep(house, store, kept), True)
                self.assertIs(is_keep(house, store, kept[1:]), by_words.is_keep(house, store, kept[1:]))
                self.assertEqual(told, by_words.guide(house, kept))
                self.assertIs(is_guide(house, store, told), True)
                asks = [chance.randrange(len(house)) for _ in range(1000)]
                self.assertEqual(guided(house, store, told, asks), follow(house, store, told, asks))
            else:
                self.assertIsNone(told)
            self.assertLess(time.monotonic() - begun, SECONDS)


if __name__ == "__main__":
    unittest.main()
