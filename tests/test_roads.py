import random
import time
import unittest

from everstock.errors import NoAsk, NoBook, NoGuide
from everstock.fates import book, keep
from everstock.keeps import guide, guided
from everstock.plans import leads_on, life_there, plan_of, time_there, within_there
from everstock.roads import (
    book_there, guide_there, guided_there, is_book_there, is_guide_there, is_keep_there, keep_there, played_there,
)
from tests import boxed, planned, rooms_by_words
from tests.boxed import ODD, TO_AND_FRO, changing
from tests.planned import DOWN, NO_ASKS, SHUT, TWO_ROOMS
from tests.things import ANYTHING

SECONDS = 60
TWO_KEEP = [[(1, 0)], [(0, 1)], [(0, 0)]]
TWO_GUIDE = {
    (0, (1, 0), 0): (0, (0, 1)), (0, (1, 0), 1): (0, (0, 1)),
    (1, (0, 1), 0): (0, (1, 0)), (1, (0, 1), 1): (1, (0, 0)),
}
# From the room 0 a thing is taken into the room 1, there two, back into the room 0.
WORN = (1, (((((-1,), 1),), (((0,), 0),)), ((((-2,), 0), ((-3,), 0)),), ()))
WORN_BOOK = {(0, (3,)): (3, 0), (1, (2,)): (2, 0), (0, (0,)): (1, 0)}


def lasting_ones(seed, many):
    """Plans and stands that last for ever, and their keeps."""
    for plan, stand, _ in planned.stands_of(seed, many):
        if life_there(plan, stand) is None:
            yield plan, stand, keep_there(plan, stand)


def worn_ones(seed, many):
    """Plans and stands that don't last for ever, and their lives."""
    for plan, stand, _ in planned.stands_of(seed, many):
        lived = life_there(plan, stand)
        if lived is not None:
            yield plan, stand, lived


class Looked(unittest.TestCase):
    """Things looked over, beside what the words say."""

    looked = staticmethod(is_keep_there)
    words = staticmethod(rooms_by_words.is_keep)

    def told(self, plan, stand, thing, told):
        before = repr(thing)
        self.assertIs(self.looked(plan, stand, thing), told, (plan, stand, thing))
        self.assertEqual(repr(thing), before)

    def as_words(self, plan, stand, thing):
        self.told(plan, stand, thing, self.words(plan, stand, thing))


class Point18Told(unittest.TestCase):
    def test_keep_and_guide(self):
        some = rooms = 0
        for plan, stand, t in planned.stands_of(190, 25):
            kept, told = keep_there(plan, stand), guide_there(plan, stand)
            if life_there(plan, stand) is None:
                self.assertIs(type(kept), list)
                self.assertEqual(kept, rooms_by_words.least_within(plan, t), (plan, stand))
                self.assertIs(type(told), dict)
                self.assertEqual(told, rooms_by_words.guide(plan, kept), (plan, stand))
                some += len(told) > 2
                rooms += len({room for room, _, _ in told}) > 1
            else:
                self.assertIsNone(kept)
                self.assertIsNone(told)
        self.assertGreater(some, 20)
        self.assertGreater(rooms, 10)

    def test_book(self):
        sizes, rooms = [], 0
        for plan, stand, _ in planned.stands_of(191, 30):
            told, lived = book_there(plan, stand), life_there(plan, stand)
            if lived is None:
                self.assertIsNone(told)
            else:
                self.assertIs(type(told), dict)
                self.assertEqual(told, rooms_by_words.book(plan, stand, lived), (plan, stand))
                sizes.append(len(told))
                rooms += len({room for room, _ in told}) > 1
        self.assertGreater(len(sizes), 40)
        self.assertGreater(max(sizes), 5)
        self.assertGreater(rooms, 10)

    def test_by_hand(self):
        for stand in ((0, (1, 0)), (1, (0, 1)), (1, (5, 6))):
            self.assertEqual(keep_there(TWO_ROOMS, stand), TWO_KEEP)
            self.assertEqual(guide_there(TWO_ROOMS, stand), TWO_GUIDE)
            self.assertIsNone(book_there(TWO_ROOMS, stand))
        for stand in ((0, (0, 7)), (1, (7, 0))):
            self.assertIsNone(keep_there(TWO_ROOMS, stand))
            self.assertIsNone(guide_there(TWO_ROOMS, stand))
        self.assertEqual(book_there(TWO_ROOMS, (0, (0, 7))), {(0, (0, 7)): (1, 1)})
        self.assertEqual(book_there(WORN, (0, (3,))), WORN_BOOK)
        self.assertEqual(book_there(WORN, (0, (4,))), {
            (0, (4,)): (4, 0), (1, (3,)): (3, 0), (0, (1,)): (2, 0), (0, (0,)): (1, 0), (1, (0,)): (1, 0)})

    def test_of_rooms_without_asks(self):
        self.assertEqual(keep_there(NO_ASKS, (1, (3, 4))), [[(0, 0)]] * 3)
        self.assertEqual(guide_there(NO_ASKS, (1, (3, 4))), {})
        self.assertIsNone(book_there(NO_ASKS, (1, (3, 4))))
        # Of time nought: nothing lasts within the box nought in the rooms with asks.
        self.assertEqual(keep_there(TWO_ROOMS, (2, (9, 9))), [[], [], [(0, 0)]])
        self.assertEqual(guide_there(TWO_ROOMS, (2, (9, 9))), {})

    def test_plans_of_one_room(self):
        for house in [*boxed.small_houses(192, 3)][::2] + [TO_AND_FRO, changing(3)]:
            store = (1,) * len(house[0][0])
            plan = plan_of(house)
            if rooms_by_words.time(plan, (0, store), 3) is None:
                continue
            kept = keep(house, store)
            self.assertEqual(keep_there(plan, (0, store)), None if kept is None else [kept])
            told = guide(house, store)
            expected = None if told is None else {(0, *key): pair for key, pair in told.items()}
            self.assertEqual(guide_there(plan, (0, store)), expected)
            told = book(house, store)
            expected = None if told is None else {(0, key): pair for key, pair in told.items()}
            self.assertEqual(book_there(plan, (0, store)), expected)

    def test_told_things_are_the_askers_own(self):
        for asked in (lambda: keep_there(TWO_ROOMS, (0, (1, 0))), lambda: keep_there(NO_ASKS, (0, (1, 0)))):
            expected, told = repr(asked()), asked()
            told[0].append("more")
            self.assertEqual(repr(told[1:]), repr(asked()[1:]))
            told.append("more")
            self.assertEqual(repr(asked()), expected)
        for asked in (lambda: guide_there(TWO_ROOMS, (0, (1, 0))), lambda: book_there(WORN, (0, (3,)))):
            expected, told = repr(asked()), asked()
            told.clear()
            self.assertEqual(repr(asked()), expected)

    def test_great_times_within_seconds(self):
        for plan, stand, t, lasting in planned.heavy_plans():
            begun = time.monotonic()
            kept, told, worn = keep_there(plan, stand), guide_there(plan, stand), book_there(plan, stand)
            self.assertLess(time.monotonic() - begun, SECONDS)
            begun = time.monotonic()
            if lasting:
                self.assertIsNone(worn)
                self.assertIs(is_keep_there(plan, stand, kept), True)
                self.assertIs(is_guide_there(plan, stand, told), True)
                self.assertEqual(len(told), sum(map(len, kept)) * len(plan[1][0]))
            else:
                self.assertEqual((kept, told), (None, None))
                self.assertIs(is_book_there(plan, stand, worn), True)
                self.assertEqual(worn[stand][0], t)
            self.assertLess(time.monotonic() - begun, SECONDS)


class Point18IsKeep(Looked):
    def test_told_keeps_hold(self):
        many = 0
        for plan, stand, kept in lasting_ones(193, 15):
            self.told(plan, stand, kept, True)
            for room, stores in enumerate(kept):
                for store in stores:
                    self.told(plan, (room, store), kept, True)
            many += 1
        self.assertGreater(many, 30)

    def test_keeps_of_other_boxes(self):
        for plan, stand, _ in lasting_ones(194, 8):
            for b in range(4 if plan[0] < 4 else 2):
                self.as_words(plan, stand, within_there(plan, b))

    def test_by_hand(self):
        for stand, told in (((0, (1, 0)), True), ((1, (0, 1)), True), ((2, (0, 0)), True), ((0, (0, 5)), False),
                            ((1, (5, 0)), False), ((0, (5, 5)), True)):
            self.told(TWO_ROOMS, stand, TWO_KEEP, told)
        self.told(SHUT, (0, (0,)), [[(0,)], []], True)
        self.told(SHUT, (1, (0,)), [[(0,)], []], False)
        self.told(SHUT, (1, (1,)), [[(0,)], [(1,)]], True)
        self.told(SHUT, (1, (1,)), [[], [(1,)]], False)
        self.told(DOWN, (2, (0,)), [[], [], [(0,)]], True)
        self.told(NO_ASKS, (1, (0, 0)), [[], [(0, 0)], []], True)
        self.told(NO_ASKS, (1, (0, 0)), [[(0, 0)], [], []], False)
        self.told(NO_ASKS, (1, (0, 0)), [[], [], []], False)

    def test_a_store_a_room_less_or_more(self):
        for thing in (
            [[], [(0, 1)], [(0, 0)]], [[(1, 0)], [], [(0, 0)]], [[(1, 0)], [(0, 1)], []], TWO_KEEP[:2],
            TWO_KEEP + [[]], TWO_KEEP + [[(0, 0)]], [], [[], [], []], [[(1, 0)], [(0, 2)], [(0, 0)]],
            [[(2, 0)], [(0, 1)], [(0, 0)]], [[(0, 0)], [(0, 1)], [(0, 0)]], [[(1, 0)], [(0, 1), (0, 0)], [(0, 0)]],
            [[(1, 0)], [(0, 1)], [(0, 1)]], [[(1, 0)], [(0, 1), (0, 2)], [(0, 0)]],
        ):
            for stand in ((0, (1, 0)), (1, (0, 2)), (2, (0, 0)), (0, (3, 3))):
                self.as_words(TWO_ROOMS, stand, thing)
        self.told(TWO_ROOMS, (0, (1, 0)), [[(1, 0)], [(0, 1)], []], False)
        self.told(TWO_ROOMS, (0, (1, 0)), [[(1, 0), (1, 0)], [(0, 1)], [(0, 0), (7, 7)]], True)

    def test_lists_for_tuples_truths_and_others(self):
        for thing in (tuple(TWO_KEEP), [tuple(stores) for stores in TWO_KEEP], [[[1, 0]], [(0, 1)], [(0, 0)]],
                      [[(True, 0)], [(0, 1)], [(0, 0)]], [[(1, False)], [(0, 1)], [(0, 0)]],
                      [[(1, 0)], [(0, 1)], [(False, 0)]], [[(1, 0)], [(0, 1)], None], [[(1, 0)], [(0, 1)], {}],
                      [[(1, 0)], [(0, 1)], [(0, 0, 0)]], [[(1, 0)], [(0, 1)], [(0, -1)]], {0: [], 1: [], 2: []}, "abc",
                      [(1, 0), (0, 1), (0, 0)], [[(1, 0)], [(0, 1)], ""], [[(1, 0)], [(0, 1)], "00"]):
            self.told(TWO_ROOMS, (0, (1, 0)), thing, False)

    def test_parts_changed(self):
        for plan, stand, kept in ((TWO_ROOMS, (0, (1, 0)), TWO_KEEP), (SHUT, (1, (1,)), [[(0,)], [(1,)]])):
            for thing in boxed.parts_changed(kept, ODD):
                self.as_words(plan, stand, thing)

    def test_keeps_made_at_random(self):
        chance, told = random.Random(195), []
        for plan, stand, kept in lasting_ones(195, 8):
            for _ in range(15):
                thing = [list(stores) for stores in kept]
                stores = chance.choice(thing)
                stores.append(tuple(chance.randint(0, 5) for _ in range(plan[0])))
                stores = chance.choice(thing)
                if stores and chance.random() < 0.5:
                    stores.pop(chance.randrange(len(stores)))
                self.as_words(plan, stand, thing)
                told.append(is_keep_there(plan, stand, thing))
        self.assertGreater(told.count(True), 50)
        self.assertGreater(told.count(False), 50)

    def test_of_anything_just_true_or_false(self):
        for thing in ANYTHING:
            for plan, stand in ((TWO_ROOMS, (0, (1, 0))), (DOWN, (2, (0,))), (NO_ASKS, (0, (0, 0)))):
                self.as_words(plan, stand, thing)
                self.as_words(plan, stand, [thing] * len(plan[1]))
                self.as_words(plan, stand, [[thing]] * len(plan[1]))
            self.told(thing, (0, (1, 0)), TWO_KEEP, False)
            self.told(TWO_ROOMS, thing, TWO_KEEP, False)

    def test_a_thousand_things(self):
        plan = planned.rooms_with((((-1, 1), (1, -1), (0, 0), (1, 1), (0, -1)),) * 8, 6, 1)
        thing = [[(n, 50 - n) for n in range(51)] for _ in range(6)]
        begun = time.monotonic()
        self.told(plan, (3, (5, 50)), thing, True)
        self.told(plan, (3, (5, 5)), thing, False)
        self.assertLess(time.monotonic() - begun, SECONDS)


class Point18IsGuide(Looked):
    looked = staticmethod(is_guide_there)
    words = staticmethod(rooms_by_words.is_guide)

    def changed(self, key, told):
        return {**TWO_GUIDE, key: told}

    def test_told_guides_hold(self):
        many = 0
        for plan, stand, kept in lasting_ones(196, 15):
            told = guide_there(plan, stand)
            self.told(plan, stand, told, True)
            for room, stores in enumerate(kept):
                for store in stores:
                    self.told(plan, (room, store), told, True)
            many += 1
        self.assertGreater(many, 30)

    def test_by_hand(self):
        for stand, told in (((0, (1, 0)), True), ((1, (0, 1)), True), ((0, (0, 5)), False), ((1, (5, 0)), False),
                            ((0, (7, 7)), True), ((2, (0, 0)), True), ((2, (7, 0)), True)):
            self.told(TWO_ROOMS, stand, TWO_GUIDE, told)

    def test_the_empty_one(self):
        for plan, stand, told in ((TWO_ROOMS, (2, (0, 0)), True), (TWO_ROOMS, (0, (5, 5)), False),
                                  (NO_ASKS, (0, (0, 0)), True), (DOWN, (2, (9,)), True), (DOWN, (1, (9,)), False)):
            self.told(plan, stand, {}, told)

    def test_one_that_does_not_hold_together_holds_for_no_stand(self):
        thing = {key: pair for key, pair in TWO_GUIDE.items() if key != (0, (1, 0), 1)}
        for stand in ((0, (1, 0)), (1, (0, 1)), (2, (0, 0))):
            self.told(TWO_ROOMS, stand, thing, False)
            self.told(TWO_ROOMS, stand, self.changed((2, (0, 0), 0), (0, (0, 0))), False)

    def test_an_entry_less(self):
        for key in TWO_GUIDE:
            self.told(TWO_ROOMS, (0, (1, 0)), {one: pair for one, pair in TWO_GUIDE.items() if one != key}, False)

    def test_an_entry_more(self):
        for key in ((0, (1, 0), 2), (0, (1, 0), -1), (3, (0, 0), 0), (2, (0, 0), 0), (-1, (0, 0), 0), (0, (2, 0), 0),
                    (0, (1, 0)), (0, (1, 0), 0, 0), ((1, 0), 0), (0, (1,), 0), "abc", 5, None, (True, (0, 1), 0),
                    (0, (1, 0), True), (0, (True, 0), 5), (0, [1, 0], 0)):
            if boxed.is_key(key) and key not in TWO_GUIDE:
                self.as_words(TWO_ROOMS, (0, (1, 0)), self.changed(key, (1, (1, 0))))
        more = {**TWO_GUIDE, (0, (2, 0), 0): (1, (2, 0)), (0, (2, 0), 1): (0, (0, 1))}
        self.told(TWO_ROOMS, (0, (1, 0)), more, True)
        self.told(TWO_ROOMS, (0, (1, 0)), {**more, (0, (2, 0), 1): (0, (1, 1))}, False)

    def test_the_second_one_in_a_room_without_asks_may_be_any(self):
        key = (1, (0, 1), 1)
        self.told(TWO_ROOMS, (1, (0, 1)), self.changed(key, (1, (0, 0))), True)
        self.told(TWO_ROOMS, (1, (0, 1)), self.changed(key, (1, (0, 1))), False)
        more = {(1, (0, 9), 0): (0, (1, 0)), (1, (0, 9), 1): (1, (0, 5)), **TWO_GUIDE}
        self.told(TWO_ROOMS, (1, (0, 1)), more, True)
        self.told(TWO_ROOMS, (1, (0, 1)), {**more, (1, (0, 9), 1): (1, (0, 8))}, True)
        self.told(TWO_ROOMS, (1, (0, 1)), {**more, (1, (0, 9), 1): (1, (0, 9))}, False)
        self.told(TWO_ROOMS, (1, (0, 1)), {**more, (1, (0, 9), 1): (1, [0, 5])}, False)
        self.told(TWO_ROOMS, (1, (0, 1)), {**more, (1, (0, 9), 1): (1, (0, 5, 0))}, False)

    def test_the_second_one_is_of_the_room_of_the_pair(self):
        # (1, 0) is a first store in the room 0, and none in the room 1 to which the pair leads.
        plan = (1, (((((0,), 1),),), ((((0,), 1),),)))
        self.told(plan, (0, (2,)), {(0, (2,), 0): (0, (2,)), (1, (1,), 0): (0, (1,))}, False)
        self.told(plan, (0, (2,)), {(0, (2,), 0): (0, (1,)), (1, (1,), 0): (0, (1,))}, True)
        self.told(plan, (1, (2,)), {(0, (2,), 0): (0, (1,)), (1, (1,), 0): (0, (1,))}, True)
        self.told(plan, (0, (1,)), {(0, (2,), 0): (0, (1,)), (1, (1,), 0): (0, (1,))}, False)

    def test_pairs_otherwise(self):
        for key in TWO_GUIDE:
            for pair in ((0, (0, 1)), (1, (0, 1)), (0, (1, 0)), (1, (1, 0)), (1, (0, 0)), (2, (0, 0)), (-1, (1, 0)),
                         (-2, (1, 0)), (True, (0, 0)), (False, (1, 0)), (None, (1, 0)), [0, (0, 1)], (0, [0, 1]),
                         (0, (0, 1), 0), (0,), (), None, 5, "ab", (0, (0, True)), (0, (False, 1)), (0, (0, -1))):
                self.as_words(TWO_ROOMS, (0, (1, 0)), self.changed(key, pair))

    def test_parts_changed(self):
        for plan, stand, told in (
            (TWO_ROOMS, (0, (1, 0)), TWO_GUIDE),
            (SHUT, (1, (2,)), {(1, (1,), 0): (1, (0,)), (1, (1,), 1): (0, (1,)), (0, (0,), 0): (0, (0,))}),
            (SHUT, (1, (2,)), {(1, (1,), 0): (0, (0,)), (1, (1,), 1): (0, (1,)), (0, (0,), 0): (0, (0,))}),
        ):
            for thing in boxed.parts_changed(told, ODD):
                self.as_words(plan, stand, thing)

    def test_guides_made_at_random(self):
        chance, told = random.Random(197), []
        for plan, stand, kept in lasting_ones(197, 10):
            made = guide_there(plan, stand)
            for _ in range(15 if made else 0):
                thing = dict(made)
                room, store, i = chance.choice(list(made))
                number = chance.randrange(len(plan[1][room][i]))
                to = plan[1][room][i][number][1]
                thing[room, store, i] = (number, chance.choice(kept[to] + [(0,) * plan[0]]))
                self.as_words(plan, stand, thing)
                told.append(is_guide_there(plan, stand, thing))
        self.assertGreater(told.count(True), 50)
        self.assertGreater(told.count(False), 50)

    def test_of_anything_just_true_or_false(self):
        for thing in ANYTHING:
            for plan, stand in ((TWO_ROOMS, (0, (1, 0))), (TWO_ROOMS, (2, (0, 0))), (NO_ASKS, (0, (0, 0)))):
                self.as_words(plan, stand, thing)
                self.as_words(plan, stand, {0: thing})
                if boxed.is_key(thing):
                    for key in (thing, (thing, (1, 0), 0), (0, thing, 0), (0, (1, 0), thing)):
                        self.as_words(plan, stand, self.changed(key, (0, (0, 1))))
            for key in TWO_GUIDE:
                self.as_words(TWO_ROOMS, (0, (1, 0)), self.changed(key, thing))
                self.as_words(TWO_ROOMS, (0, (1, 0)), self.changed(key, (0, thing)))
                self.as_words(TWO_ROOMS, (0, (1, 0)), self.changed(key, (thing, (0, 0))))
            self.told(thing, (0, (1, 0)), TWO_GUIDE, False)
            self.told(TWO_ROOMS, thing, TWO_GUIDE, False)


class Point18Guided(unittest.TestCase):
    def test_against_the_words(self):
        chance, many, refused = random.Random(198), 0, 0
        for plan, stand, _ in lasting_ones(198, 25):
            told = guide_there(plan, stand)
            for _ in range(3):
                asks = []
                while len(asks) < 15:
                    # Mostly it goes on as far as there is an ask, and is refused then.
                    result = rooms_by_words.guided(plan, stand, told, asks + [0])
                    if type(result) is tuple:
                        break
                    more = chance.choice((0, 0, 1, 2))
                    result = rooms_by_words.guided(plan, stand, told, asks + [more])
                    asks.append(more if type(result) is list else 0)
                expected = rooms_by_words.guided(plan, stand, told, asks)
                result = guided_there(plan, stand, told, asks)
                self.assertIs(type(result), list)
                self.assertEqual(result, expected)
                many += len(result) > 2
                for more in (7, 1, 0):
                    expected = rooms_by_words.guided(plan, stand, told, asks + [more, "later"])
                    with self.assertRaises(NoAsk) as caught:
                        guided_there(plan, stand, told, asks + [more, "later"])
                    self.assertEqual(("no ask", caught.exception.number), expected)
                    refused += expected[1] == more
        self.assertGreater(many, 20)
        self.assertGreater(refused, 20)

    def test_by_hand(self):
        self.assertEqual(guided_there(TWO_ROOMS, (0, (1, 0)), TWO_GUIDE, []), [])
        self.assertEqual(guided_there(TWO_ROOMS, (0, (1, 0)), TWO_GUIDE, [0, 0, 1, 0, 0]), [0, 0, 0, 0, 0])
        self.assertEqual(guided_there(TWO_ROOMS, (1, (9, 9)), TWO_GUIDE, [0, 1, 1]), [0, 0, 1])

    def test_many_asks(self):
        chance, room, asks, there = random.Random(199), 0, [], (1, 0)
        for _ in range(2000):
            i = chance.randrange(2) if room == 0 else 0
            number, second = TWO_GUIDE[room, there, i]
            room, there = TWO_ROOMS[1][room][i][number][1], second
            asks.append(i)
        self.assertEqual(guided_there(TWO_ROOMS, (0, (1, 0)), TWO_GUIDE, asks), [0] * 2000)

    def test_begun_at_the_first_store_there_that_it_covers(self):
        plan = (2, (((((0, 0), 0), ((0, 0), 0), ((0, 0), 0)),), ()))
        told = {(0, (1, 0), 0): (2, (1, 0)), (0, (0, 1), 0): (1, (0, 1)), (0, (0, 2), 0): (0, (0, 2))}
        for store, number in (((1, 0), 2), ((1, 1), 1), ((0, 1), 1), ((9, 9), 1), ((9, 0), 2)):
            self.assertEqual(guided_there(plan, (0, store), told, [0]), [number])

    def test_no_ask_in_the_room_where_it_stands_then(self):
        # There is an ask 2 in the room 1 alone, and none in the room 2.
        plan = (1, ((((( 0,), 1),), (((0,), 2),)), ((((0,), 0),), (((0,), 1),), (((0,), 2),)), ()))
        told = {(room, (0,), i): (0, (0,)) for room, asks in ((0, 2), (1, 3)) for i in range(asks)}
        self.assertIs(is_guide_there(plan, (0, (0,)), told), True)
        for asks, first in (([2], 2), ([0, 3], 3), ([0, 2, 0], 0), ([1, 1], 1), ([0, 0, 2], 2), ([0, 1, 1, 2, 5], 5),
                            ([1, None], None), ([0, 1, True], True), ([0, -1, 2], -1)):
            with self.assertRaises(NoAsk) as caught:
                guided_there(plan, (0, (0,)), told, asks)
            self.assertIs(caught.exception.number, first)
            if asks[-1] is first:
                self.assertEqual(guided_there(plan, (0, (0,)), told, asks[:-1]), [0] * (len(asks) - 1))
        self.assertEqual(guided_there(plan, (0, (0,)), told, [0, 2]), [0, 0])
        self.assertEqual(guided_there(plan, (1, (0,)), told, [2]), [0])

    def test_from_rooms_without_asks(self):
        for plan, stand, told in ((NO_ASKS, (1, (0, 0)), {}), (TWO_ROOMS, (2, (0, 5)), TWO_GUIDE), (TWO_ROOMS, (2, (0, 0)), {})):
            self.assertEqual(guided_there(plan, stand, told, []), [])
            for i in (0, 1, -1, True, None, "0"):
                with self.assertRaises(NoAsk) as caught:
                    guided_there(plan, stand, told, [i, 0])
                self.assertIs(caught.exception.number, i)

    def test_no_ask_of_anything(self):
        for thing in ANYTHING + (2, -1, -2, True, False):
            if type(thing) is int and thing in (0, 1):
                continue
            asks = [0, 0, thing, "later"]
            before = repr(asks)
            with self.assertRaises(NoAsk) as caught:
                guided_there(TWO_ROOMS, (0, (1, 0)), TWO_GUIDE, asks)
            self.assertIs(caught.exception.number, thing)
            self.assertEqual(repr(asks), before)

    def test_no_guide_goes_ahead(self):
        for thing in ANYTHING + (list(TWO_GUIDE.items()), TWO_KEEP):
            if thing == {}:
                continue
            for stand in ((0, (1, 0)), (2, (0, 0))):
                for asks in ([], [9, None]):
                    with self.assertRaises(NoGuide):
                        guided_there(TWO_ROOMS, stand, thing, asks)
        for stand in ((0, (0, 9)), (1, (9, 0))):
            for thing in (TWO_GUIDE, {}):
                with self.assertRaises(NoGuide):
                    guided_there(TWO_ROOMS, stand, thing, [None])
        for thing in boxed.parts_changed(TWO_GUIDE, ODD):
            if not rooms_by_words.is_guide(TWO_ROOMS, (0, (1, 0)), thing):
                with self.assertRaises(NoGuide):
                    guided_there(TWO_ROOMS, (0, (1, 0)), thing, [0])

    def test_plans_of_one_room(self):
        told = guide(changing(3), (1, 0))
        there = guide_there(plan_of(changing(3)), (0, (1, 0)))
        self.assertEqual(guided_there(plan_of(changing(3)), (0, (5, 5)), there, [0] * 9), guided(changing(3), (5, 5), told, [0] * 9))


class Point18IsBook(Looked):
    looked = staticmethod(is_book_there)
    words = staticmethod(rooms_by_words.is_book)

    def changed(self, key, told):
        return {**WORN_BOOK, key: told}

    def test_told_books_hold(self):
        many = 0
        for plan, stand, _ in worn_ones(200, 25):
            told = book_there(plan, stand)
            for there in told:
                self.told(plan, there, told, True)
            room, store = stand
            for kind in range(len(store)):
                self.as_words(plan, (room, store[:kind] + (store[kind] + 1,) + store[kind + 1:]), told)
            self.as_words(plan, ((room + 1) % len(plan[1]), store), told)
            many += 1
        self.assertGreater(many, 30)

    def test_by_hand(self):
        for stand, told in (((0, (3,)), True), ((0, (2,)), True), ((0, (0,)), True), ((0, (4,)), False),
                            ((1, (2,)), True), ((1, (0,)), True), ((1, (3,)), False), ((2, (0,)), False)):
            self.told(WORN, stand, WORN_BOOK, told)
        self.told(WORN, (0, (3,)), {}, False)
        self.told(NO_ASKS, (0, (0, 0)), {}, False)

    def test_an_entry_out_or_more(self):
        for key in WORN_BOOK:
            rest = {one: pair for one, pair in WORN_BOOK.items() if one != key}
            self.told(WORN, (0, (3,)), rest, False)
        self.told(WORN, (0, (3,)), self.changed((1, (1,)), (1, 0)), True)
        self.told(WORN, (0, (3,)), self.changed((1, (3,)), (9, 0)), True)
        self.told(WORN, (0, (3,)), self.changed((1, (3,)), (3, 0)), False)
        self.told(WORN, (0, (3,)), self.changed((1, (6,)), (9, 0)), False)
        self.told(WORN, (0, (3,)), self.changed((0, (1,)), (1, 0)), False)
        self.told(WORN, (0, (3,)), self.changed((0, (1,)), (3, 0)), True)
        # In a room without asks there is no ask to name.
        for i in (0, -1, None):
            self.told(WORN, (0, (3,)), self.changed((2, (0,)), (1, i)), False)
        for key in ((3, (0,)), (-1, (0,)), (True, (0,)), (1, (0, 0)), (1, (-1,)), (1, [0]), 5, None, "ab", (0,), ((0,), 0)):
            if boxed.is_key(key):
                self.told(WORN, (0, (3,)), self.changed(key, (9, 0)), False)

    def test_ranks_and_asks(self):
        for pair, told in (((3, 0), True), ((4, 0), True), ((10 ** 59, 0), True), ((2, 0), False), ((1, 0), False),
                           ((0, 0), False), ((-1, 0), False), ((True, 0), False), ((3, 1), False), ((3, 2), False),
                           ((3, -1), False), ((3, False), False), ((3,), False), ([3, 0], False), ((3, 0, 0), False),
                           (None, False), ("30", False), ((None, 0), False), ((3, None), False), ((3, [0]), False)):
            self.told(WORN, (0, (3,)), self.changed((0, (3,)), pair), told)
        self.told(WORN, (0, (3,)), {one: (rank + 1, i) for one, (rank, i) in WORN_BOOK.items()}, True)
        self.told(WORN, (0, (3,)), {one: (rank - 1, i) for one, (rank, i) in WORN_BOOK.items()}, False)
        self.told(WORN, (0, (3,)), {one: (5, i) for one, (_, i) in WORN_BOOK.items()}, False)

    def test_a_stand_of_another_room_does_not_count(self):
        plan = (1, (((((-1,), 1),),), ((((-1,), 0),),)))
        self.told(plan, (0, (1,)), {(0, (1,)): (2, 0), (1, (0,)): (1, 0)}, True)
        self.told(plan, (0, (1,)), {(0, (1,)): (2, 0), (0, (0,)): (1, 0)}, False)
        self.told(plan, (1, (1,)), {(0, (1,)): (2, 0), (1, (0,)): (1, 0)}, False)

    def test_parts_changed(self):
        for plan, stand, told in ((WORN, (0, (3,)), WORN_BOOK), (WORN, (1, (2,)), {(1, (2,)): (2, 0), (0, (0,)): (1, 0)})):
            for thing in boxed.parts_changed(told, ODD):
                self.as_words(plan, stand, thing)

    def test_books_made_at_random(self):
        chance, told = random.Random(201), []
        for plan, stand, _ in worn_ones(201, 12):
            made = book_there(plan, stand)
            for _ in range(15):
                thing = {**made}
                for there in chance.sample(list(made), min(2, len(made))):
                    rank, i = thing.pop(there)
                    store = tuple(max(0, number + chance.choice((-1, 0, 0, 1))) for number in there[1])
                    thing[there[0], store] = (rank + chance.choice((-1, 0, 0, 1)), i)
                self.as_words(plan, stand, thing)
                told.append(is_book_there(plan, stand, thing))
        self.assertGreater(told.count(True), 50)
        self.assertGreater(told.count(False), 50)

    def test_of_anything_just_true_or_false(self):
        for thing in ANYTHING:
            self.told(WORN, (0, (3,)), thing, False)
            for key in WORN_BOOK:
                self.as_words(WORN, (0, (3,)), self.changed(key, thing))
                self.as_words(WORN, (0, (3,)), self.changed(key, (thing, 0)))
                self.as_words(WORN, (0, (3,)), self.changed(key, (4, thing)))
            if boxed.is_key(thing):
                for key in (thing, (thing, (0,)), (0, thing), (0, (thing,))):
                    self.as_words(WORN, (0, (3,)), self.changed(key, (9, 0)))
            self.told(thing, (0, (3,)), WORN_BOOK, False)
            self.told(WORN, thing, WORN_BOOK, False)


class Point18Played(unittest.TestCase):
    def ending(self, plan, stand, told, answer):
        """What is told, once it is seen that it is as the words say and of the kinds told."""
        seen, expected = [], []
        result = played_there(plan, stand, told, lambda *its: seen.append(its) or answer(*its))
        by_the_words = rooms_by_words.played(plan, stand, told, lambda *its: expected.append(its) or answer(*its))
        self.assertEqual(result, by_the_words, (plan, stand, told))
        self.assertEqual(seen, expected)
        self.assertEqual([type(part) for part in (result, *result)], [tuple, tuple, tuple, str])
        return result

    def test_told_books_against_players(self):
        for plan, stand, lived in worn_ones(202, 15):
            told = book_there(plan, stand)

            def first(room, i, store):
                return leads_on(plan, i, (room, store))[0][0]

            def longest(room, i, store):
                return max(leads_on(plan, i, (room, store)), key=lambda pair: (told[pair[1]][0], -pair[0]))[0]

            asks, numbers, end = self.ending(plan, stand, told, first)
            self.assertEqual((len(asks), end), (len(numbers) + 1, "stuck"))
            self.assertLessEqual(len(numbers), lived)
            asks, numbers, end = self.ending(plan, stand, told, longest)
            self.assertEqual((len(asks), len(numbers), end), (lived + 1, lived, "stuck"))

    def test_the_def_is_asked_with_the_room_the_ask_and_the_store(self):
        seen = []
        result = played_there(WORN, (0, (2,)), WORN_BOOK, lambda *its: seen.append(its) or 0)
        self.assertEqual(seen, [(0, 0, (2,))])
        self.assertEqual(result, ((0, 0), (0,), "stuck"))
        seen.clear()
        result = played_there(WORN, (0, (3,)), WORN_BOOK, lambda *its: seen.append(its) or 0)
        self.assertEqual(seen, [(0, 0, (3,)), (1, 0, (2,))])
        self.assertEqual(result, ((0, 0, 0), (0, 0), "stuck"))

    def test_stuck_at_once_without_asking(self):
        def never(room, i, store):
            raise AssertionError("asked")

        self.assertEqual(played_there(WORN, (0, (0,)), WORN_BOOK, never), ((0,), (), "stuck"))
        self.assertEqual(played_there(WORN, (1, (1,)), WORN_BOOK, never), ((0,), (), "stuck"))

    def test_an_answer_that_is_no_way_that_leads(self):
        for thing in ANYTHING + (1, 2, -1, -2, True, False, None, "0", [0]):
            if type(thing) is int and thing == 0:
                continue
            self.assertEqual(played_there(WORN, (0, (3,)), WORN_BOOK, lambda *its: thing), ((0,), (), "way"))
            result = played_there(WORN, (0, (3,)), WORN_BOOK, lambda room, i, store: thing if room else 0)
            self.assertEqual(result, ((0, 0), (0,), "way"))

    def test_of_least_rank_and_sorted_ahead_and_of_the_room(self):
        plan = (2, (((((0, -5), 1),), (((-3, 0), 1),)), ((((-1, 0), 1),), (((0, -1), 1),))))
        for told, first in (
            ({(0, (0, 2)): (2, 0), (0, (2, 0)): (2, 1)}, 0), ({(0, (0, 2)): (2, 1), (0, (2, 0)): (2, 0)}, 1),
            ({(0, (0, 2)): (3, 1), (0, (2, 0)): (2, 0)}, 0), ({(0, (0, 2)): (3, 1), (1, (0, 0)): (1, 0)}, 1),
        ):
            self.assertEqual(self.ending(plan, (0, (0, 0)), told, lambda *its: 0), ((first,), (), "stuck"))

    def test_no_book(self):
        for thing in ANYTHING + ({}, list(WORN_BOOK.items())):
            with self.assertRaises(NoBook):
                played_there(WORN, (0, (3,)), thing, lambda *its: 0)
        for thing in boxed.parts_changed(WORN_BOOK, ODD):
            if not rooms_by_words.is_book(WORN, (0, (3,)), thing):
                with self.assertRaises(NoBook):
                    played_there(WORN, (0, (3,)), thing, lambda *its: 0)
        for stand in ((0, (4,)), (1, (3,)), (2, (0,))):
            with self.assertRaises(NoBook):
                played_there(WORN, stand, WORN_BOOK, lambda *its: 0)

    def test_the_book_may_be_changed_behind_the_first_answer(self):
        told = dict(WORN_BOOK)
        result = played_there(WORN, (0, (3,)), told, lambda *its: told.clear() or 0)
        self.assertEqual(result, ((0, 0, 0), (0, 0), "stuck"))

    def test_great_times_within_seconds(self):
        for plan, stand, t, lasting in planned.heavy_plans():
            if not lasting:
                told = book_there(plan, stand)
                begun = time.monotonic()
                result = played_there(plan, stand, told, lambda room, i, store: max(
                    leads_on(plan, i, (room, store)), key=lambda pair: told[pair[1]][0])[0])
                self.assertEqual((len(result[1]), result[2]), (t - 1, "stuck"))
                self.assertEqual(time_there(plan, stand), t)
                self.assertLess(time.monotonic() - begun, SECONDS)


if __name__ == "__main__":
    unittest.main()
