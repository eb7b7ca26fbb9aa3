import random
import time
import unittest

from everstock.asks import lasts, least
from everstock.boxes import least_within
from everstock.fates import life
from everstock.fates import time as time_of
from everstock.houses import covers, is_house, is_store, leads
from everstock.plans import (
    is_plan, is_stand, lasts_there, leads_on, least_there, life_there, plan_of, time_there, within_there,
)
from everstock.rounds import worn_by
from tests import boxed, by_bits, by_words, heavy, planned, rooms_by_words
from tests.boxed import ODD, TO_AND_FRO, WEARS_OUT, changing
from tests.planned import BY_TURNS, DOWN, NO_ASKS, SHUT, TWO_ROOMS
from tests.test_asks import HEAVY
from tests.things import ANYTHING

SECONDS = 60


class Point17IsPlan(unittest.TestCase):
    def told(self, thing, told):
        before = repr(thing)
        self.assertIs(is_plan(thing), told, thing)
        self.assertEqual(repr(thing), before)

    def test_of_all_sizes(self):
        for kinds in range(1, 5):
            for rooms in range(1, 7):
                for asks in range(9):
                    for pairs in range(1, 6):
                        ask = (((-99,) * kinds, rooms - 1),) * pairs
                        self.told((kinds, ((ask,) * asks,) * rooms), True)
                        self.told((kinds, ((),) * (rooms - 1) + ((ask,) * asks,)), True)

    def test_one_beyond_each(self):
        pair = ((0,), 0)
        self.told((1, (((pair,),),)), True)
        self.told((0, ((((((), 0)),),),)), False)
        self.told((5, (((((0,) * 5, 0),),),)), False)
        self.told((5, ((),)), False)
        self.told((0, ((),)), False)
        self.told((-1, ((),)), False)
        self.told((1, ()), False)
        self.told((1, ((),) * 7), False)
        self.told((1, ((),) * 6), True)
        self.told((1, (((pair,),) * 9,)), False)
        self.told((1, (((pair,),) * 8,)), True)
        self.told((1, (((pair,) * 6,),)), False)
        self.told((1, (((pair,) * 5,),)), True)
        self.told((1, (((),),)), False)
        for number in (-100, 100, 10 ** 59, -(10 ** 59)):
            self.told((1, (((((number,), 0),),),)), False)
        for number in (-99, 99):
            self.told((1, (((((number,), 0),),),)), True)

    def test_rooms_that_are_not_there(self):
        for to in (2, 3, -1, -2, 10 ** 59, True, False, None, "0", (0,), [0]):
            self.told((1, (((((0,), to),),), ())), False)
        for to in (0, 1):
            self.told((1, (((((0,), to),),), ())), True)

    def test_ways_of_another_length(self):
        self.told((2, (((((0,), 0),),),)), False)
        self.told((1, (((((0, 0), 0),),),)), False)
        self.told((2, (((((0, 0), 0), ((0,), 0)),),)), False)
        self.told((2, (((((0, 0), 0), ((0, 0, 0), 0)),),)), False)
        self.told((2, (((((0, 0), 0), ((0, 0), 0)),),)), True)

    def test_lists_truths_texts_and_others(self):
        for thing in (
            [1, ((),)], (1, [()]), (1, ([],)), (1, (([],),)), (1, (([((0,), 0)],),)), (1, (((((0,), 0),),), [])),
            (1, (((([0], 0),),),)), (1, ((([(0,), 0],),),)), (True, ((),)), (1, (((((True,), 0),),),)),
            (1, (((((0,), False),),),)), ("1", ((),)), (1, "a"), (1, ("",)), (1, ("a",)), (1, (("a",),)), (None, ((),)),
            (1,), (1, ((),), 0), (1, {}), (1, ({},)), (((),), 1), (1, (((((0,), 0, 0),),),)), (1, (((((0,),),),),)),
            (1, ((((0,), 0),),)), (1, (((0,), 0),)), (1, ((((0,),),),)), (1, None), (1, (None,)), (1, ((None,),)),
            (1, (((None,),),)), (1, ((((None, 0),),),)), (1, (((((None,), 0),),),)),
        ):
            self.told(thing, False)

    def test_parts_changed(self):
        for plan in (TWO_ROOMS, DOWN, SHUT, NO_ASKS, BY_TURNS):
            self.told(plan, True)
            for thing in boxed.parts_changed(plan, ODD):
                self.told(thing, self.by_the_words(thing))

    def by_the_words(self, thing):
        """A plan, word by word."""
        if type(thing) is not tuple or len(thing) != 2 or type(thing[0]) is not int or not 1 <= thing[0] <= 4:
            return False
        kinds, rooms = thing
        if type(rooms) is not tuple or not 1 <= len(rooms) <= 6:
            return False
        for room in rooms:
            if type(room) is not tuple or len(room) > 8:
                return False
            for ask in room:
                if type(ask) is not tuple or not 1 <= len(ask) <= 5:
                    return False
                for pair in ask:
                    if type(pair) is not tuple or len(pair) != 2 or type(pair[1]) is not int:
                        return False
                    if not is_house(((pair[0],),)) or len(pair[0]) != kinds or not 0 <= pair[1] < len(rooms):
                        return False
        return True

    def test_of_anything(self):
        for thing in ANYTHING + ODD:
            self.told(thing, False)
            for rooms in (thing, (thing,), ((thing,),), (((thing,),),), ((((thing, 0),),),), (((((0,), thing),),),),
                          (((((thing,), 0),),),)):
                self.told((1, rooms), self.by_the_words((1, rooms)))
            self.told((thing, ((),)), type(thing) is int and thing in (1, 2, 3, 4))


class Point17IsStand(unittest.TestCase):
    def told(self, plan, thing, told):
        before = repr(thing)
        self.assertIs(is_stand(plan, thing), told, (plan, thing))
        self.assertEqual(repr(thing), before)

    def test_by_hand(self):
        for room in range(3):
            self.told(TWO_ROOMS, (room, (0, 0)), True)
            self.told(TWO_ROOMS, (room, (10 ** 59, 7)), True)
        for thing in ((3, (0, 0)), (-1, (0, 0)), (True, (0, 0)), (False, (0, 0)), (None, (0, 0)), ("0", (0, 0)),
                      (0, (0,)), (0, (0, 0, 0)), (0, ()), (0, (-1, 0)), (0, (0, True)), (0, [0, 0]), [0, (0, 0)],
                      (0, 0, 0), (0,), (0, (0, 0), 0), (0, "00"), ((0, 0), 0), (0, (0, None))):
            self.told(TWO_ROOMS, thing, False)

    def test_of_anything(self):
        for thing in ANYTHING + ODD:
            for plan in (TWO_ROOMS, DOWN, SHUT, NO_ASKS):
                self.told(plan, thing, rooms_by_words.is_stand(plan, thing))
                self.told(plan, (0, thing), rooms_by_words.is_stand(plan, (0, thing)))
                store = (0,) * plan[0]
                self.told(plan, (thing, store), rooms_by_words.is_stand(plan, (thing, store)))
            self.told(thing, (0, (0, 0)), False)


class Point17PlanOf(unittest.TestCase):
    def test_one_room_to_which_each_way_leads(self):
        self.assertEqual(plan_of(TO_AND_FRO), (2, (((((-1, 1), 0), ((1, -1), 0)),),)))
        self.assertEqual(plan_of(WEARS_OUT), (1, (((((-1,), 0),),),)))
        for house in boxed.small_houses(170, 4):
            told = plan_of(house)
            self.assertEqual(told, planned.plan_of(house))
            self.assertIs(is_plan(told), True)

    def test_it_tells_what_the_functions_of_the_house_tell(self):
        chance = random.Random(171)
        for house in boxed.small_houses(171, 10):
            plan = plan_of(house)
            store = tuple(chance.randint(0, 4) for _ in house[0][0])
            self.assertIs(is_stand(plan, (0, store)), is_store(house, store))
            for i in range(len(house)):
                expected = [(number, (0, reached)) for number, reached in leads(house, i, store)]
                self.assertEqual(leads_on(plan, i, (0, store)), expected)
            for n in (0, 1, 3):
                self.assertEqual(least_there(plan, n), [least(house, n)])
                self.assertIs(lasts_there(plan, (0, store), n), lasts(house, store, n))
                self.assertEqual(within_there(plan, n), [least_within(house, n)])
            if by_words.time(house, store, 4 if len(store) < 4 else 2) is not None:
                self.assertEqual(time_there(plan, (0, store)), time_of(house, store))
                self.assertEqual(life_there(plan, (0, store)), life(house, store))


class Point17LeadsOn(unittest.TestCase):
    def test_by_hand(self):
        self.assertEqual(leads_on(TWO_ROOMS, 0, (0, (1, 0))), [(0, (1, (0, 2))), (1, (0, (1, 0)))])
        self.assertEqual(leads_on(TWO_ROOMS, 0, (0, (0, 0))), [(1, (0, (0, 0)))])
        self.assertEqual(leads_on(TWO_ROOMS, 1, (0, (0, 9))), [])
        self.assertEqual(leads_on(TWO_ROOMS, 1, (1, (0, 1))), [(1, (2, (0, 0)))])
        self.assertEqual(leads_on(TWO_ROOMS, 1, (1, (0, 2))), [(0, (0, (1, 0))), (1, (2, (0, 1)))])
        self.assertEqual(leads_on(DOWN, 1, (0, (5,))), [(0, (1, (4,))), (1, (2, (0,)))])
        self.assertEqual(leads_on(DOWN, 1, (0, (10 ** 59,))), [(0, (1, (10 ** 59 - 1,))), (1, (2, (10 ** 59 - 5,)))])

    def test_by_the_words(self):
        chance = random.Random(172)
        for plan in planned.small_plans(172, 10):
            for room in range(len(plan[1])):
                stand = (room, tuple(chance.randint(0, 3) for _ in range(plan[0])))
                for i in range(len(plan[1][room])):
                    told = leads_on(plan, i, stand)
                    self.assertIs(type(told), list)
                    self.assertEqual(told, rooms_by_words.leads_on(plan, i, stand))


class Point17SoManyAsks(unittest.TestCase):
    def test_against_all_stores(self):
        sizes = []
        for plan in planned.small_plans(173, 8):
            for n in range({1: 6, 2: 4, 3: 3, 4: 3}[plan[0]]):
                told = least_there(plan, n)
                self.assertEqual(told, rooms_by_words.least(plan, n), (plan, n))
                sizes.extend(map(len, told))
        self.assertGreater(max(sizes), 4)

    def test_lasts_there(self):
        chance, seen = random.Random(174), []
        for plan in planned.small_plans(174, 12):
            for _ in range(3):
                stand = (chance.randrange(len(plan[1])), tuple(chance.randint(0, 4) for _ in range(plan[0])))
                for n in range(7 if plan[0] < 3 else 5):
                    told = lasts_there(plan, stand, n)
                    self.assertIs(told, rooms_by_words.lasts(plan, stand, n), (plan, stand, n))
                    seen.append(told)
        self.assertGreater(seen.count(True), 100)
        self.assertGreater(seen.count(False), 100)

    def test_by_hand(self):
        self.assertEqual(least_there(TWO_ROOMS, 0), [[(0, 0)]] * 3)
        self.assertEqual(least_there(TWO_ROOMS, 1), [[(1, 0)], [(0, 1)], [(0, 0)]])
        self.assertEqual(least_there(TWO_ROOMS, 20), [[(1, 0)], [(0, 1)], [(0, 0)]])
        self.assertEqual(least_there(DOWN, 1), [[(1,)], [(2,)], [(0,)]])
        self.assertEqual(least_there(DOWN, 2), [[(3,)], [(3,)], [(0,)]])
        self.assertEqual(least_there(SHUT, 3), [[(0,)], [(1,)]])

    def test_a_room_without_asks(self):
        for n in range(21):
            self.assertEqual(least_there(NO_ASKS, n), [[(0, 0)]] * 3)
            self.assertIs(lasts_there(NO_ASKS, (1, (0, 0)), n), True)
            self.assertIs(lasts_there(TWO_ROOMS, (2, (0, 0)), n), True)
            self.assertEqual(least_there(TWO_ROOMS, n)[2], [(0, 0)])

    def test_of_no_ask_all_stores_last(self):
        for plan in planned.small_plans(175, 1):
            self.assertEqual(least_there(plan, 0), [[(0,) * plan[0]]] * len(plan[1]))


class Point17Boxes(unittest.TestCase):
    def test_against_all_stores(self):
        some = 0
        for plan in planned.small_plans(176, 12):
            for b in {1: (0, 1, 2, 5, 9), 2: (0, 1, 2, 4), 3: (0, 1, 2), 4: (0, 1)}[plan[0]]:
                told = within_there(plan, b)
                self.assertIs(type(told), list)
                self.assertEqual(told, rooms_by_words.least_within(plan, b), (plan, b))
                some += any(0 < len(stores) and stores != [(0,) * plan[0]] for stores in told)
        self.assertGreater(some, 50)

    def test_by_hand(self):
        self.assertEqual(within_there(NO_ASKS, 0), [[(0, 0)]] * 3)
        self.assertEqual(within_there(TWO_ROOMS, 0), [[], [], [(0, 0)]])
        self.assertEqual(within_there(TWO_ROOMS, 1), [[(1, 0)], [(0, 1)], [(0, 0)]])
        self.assertEqual(within_there(DOWN, 20), [[], [], [(0,)]])
        self.assertEqual(within_there(SHUT, 0), [[(0,)], []])
        self.assertEqual(within_there(SHUT, 1), [[(0,)], [(1,)]])

    def test_what_is_more_is_thrown_away_in_the_room_that_is_led_to(self):
        plan = (1, (((((5,), 1),),), ((((-3,), 0),),)))
        self.assertEqual(within_there(plan, 2), [[], []])
        self.assertEqual(within_there(plan, 3), [[(0,)], [(3,)]])

    def test_counters_of_many_rooms_within_seconds(self):
        for house in (boxed.COUNTER, boxed.COUNTER_BACK):
            for further in (0, 1):
                begun = time.monotonic()
                self.assertEqual(within_there(planned.rooms_with(house, 6, further), 20), [[]] * 6)
                self.assertLess(time.monotonic() - begun, SECONDS)
        expected = [(0, 0, 0, 1), (0, 0, 1, 0)]
        plan = planned.rooms_with(boxed.COUNTER_THAT_LASTS, 6, 1)
        self.assertEqual(within_there(plan, 20), [expected] * 6)

    def test_great_boxes_within_seconds(self):
        for house in heavy.BOXES:
            expected, _ = by_bits.least_and_how_many(house, 20)
            for further in (0, 1):
                begun = time.monotonic()
                self.assertEqual(within_there(planned.rooms_with(house, 6, further), 20), [expected] * 6)
                self.assertLess(time.monotonic() - begun, SECONDS)


class Point17TimesAndLives(unittest.TestCase):
    def test_by_the_words(self):
        seen = []
        for plan, stand, t in planned.stands_of(177, 25):
            self.assertEqual(time_there(plan, stand), t, (plan, stand))
            met = rooms_by_words.met_at_most(plan, stand, t + 3, {})
            told = life_there(plan, stand)
            # What meets more asks than the time has lasts for ever.
            self.assertEqual(told, met if met < t else None, (plan, stand))
            seen.append((t, told is None))
        for t in (0, 1, 2):
            self.assertIn((t, True), seen)
            self.assertIn((t + 1, False), seen)

    def test_by_hand(self):
        for stand, t, lived in (
            ((2, (0, 0)), 0, None), ((0, (0, 0)), 1, 0), ((0, (1, 0)), 1, None), ((0, (0, 9)), 1, 0),
            ((1, (0, 1)), 1, None), ((1, (7, 0)), 1, 0), ((0, (10 ** 59, 0)), 1, None),
        ):
            self.assertEqual(time_there(TWO_ROOMS, stand), t, stand)
            self.assertEqual(life_there(TWO_ROOMS, stand), lived, stand)
        self.assertEqual(life_there(DOWN, (0, (0,))), 0)
        self.assertEqual(life_there(DOWN, (1, (3,))), 2)
        self.assertIsNone(life_there(DOWN, (2, (0,))))
        self.assertEqual(life_there(DOWN, (0, (9,))), 8)

    def test_rooms_without_asks(self):
        for room in range(3):
            for store in ((0, 0), (5, 10 ** 59)):
                self.assertEqual(time_there(NO_ASKS, (room, store)), 0)
                self.assertIsNone(life_there(NO_ASKS, (room, store)))

    def test_two_like_rooms(self):
        chance = random.Random(178)
        for plan, (room, store), t in planned.stands_of(178, 6):
            kinds, rooms = plan
            if len(rooms) < 6:
                # One more room like the told one, to which some of the pairs lead instead.
                def led(to):
                    return len(rooms) if to == room and chance.random() < 0.5 else to
                more = tuple(tuple(tuple((way, led(to)) for way, to in ask) for ask in one)
                             for one in rooms + (rooms[room],))
                for there in (room, len(rooms)):
                    self.assertEqual(time_there((kinds, more), (there, store)), t)
                    self.assertEqual(life_there((kinds, more), (there, store)), life_there(plan, (room, store)))
                told = least_there((kinds, more), 3)
                self.assertEqual(told[room], told[-1])
                self.assertEqual(told[:-1], least_there(plan, 3))

    def test_a_room_that_nothing_leads_to(self):
        self.assertEqual(life_there(SHUT, (1, (0,))), 0)
        self.assertIsNone(life_there(SHUT, (1, (1,))))
        for plan, (room, store), t in planned.stands_of(179, 4):
            kinds, rooms = plan
            if len(rooms) < 6:
                more = (kinds, rooms + (((((-1,) * kinds, room),),),))
                self.assertEqual(life_there(more, (room, store)), life_there(plan, (room, store)))
                more_store = tuple(number + 1 for number in store)
                self.assertIs(lasts_there(more, (len(rooms), more_store), t + 1), lasts_there(plan, (room, store), t))

    def test_no_store_lasts_though_no_one_ask_wears_all_out(self):
        # What the one room takes, the other one doesn't bring back.
        for many in range(12):
            self.assertEqual(life_there(BY_TURNS, (0, (many,))), 2 * max(0, many - 1) if many else 0)
        self.assertIsNone(worn_by((((-2,), (1,)),)))

    def test_it_is_the_number_that_it_lasts(self):
        for plan, stand, t in planned.stands_of(180, 8):
            told = life_there(plan, stand)
            for n in range(t + 3):
                self.assertIs(lasts_there(plan, stand, n), told is None or n <= told)

    def test_great_times_within_seconds(self):
        for plan, stand, t, lasting in planned.heavy_plans():
            begun = time.monotonic()
            self.assertEqual(time_there(plan, stand), t)
            self.assertEqual(life_there(plan, stand), None if lasting else t - 1)
            self.assertLess(time.monotonic() - begun, SECONDS)

    def test_twenty_asks_of_six_rooms_within_seconds(self):
        for further, house in enumerate(HEAVY):
            begun = time.monotonic()
            self.assertEqual(least_there(planned.rooms_with(house, 6, further), 20), [least(house, 20)] * 6)
            self.assertLess(time.monotonic() - begun, SECONDS)


class Points2And3(unittest.TestCase):
    def test_told_lists_are_the_askers_own(self):
        for asked in (lambda: least_there(TWO_ROOMS, 0), lambda: within_there(NO_ASKS, 3),
                      lambda: least_there(TWO_ROOMS, 2), lambda: leads_on(TWO_ROOMS, 0, (0, (1, 0)))):
            expected = repr(asked())
            told = asked()
            if type(told[0]) is list:
                told[0].append("more")
            told.append("more")
            self.assertEqual(repr(asked()), expected)
        told = least_there(NO_ASKS, 2)
        told[0].append("more")
        self.assertEqual(told[1], [(0, 0)])
        told = within_there(NO_ASKS, 2)
        told[0].append("more")
        self.assertEqual(told[1], [(0, 0)])

    def test_the_same_for_equal_things_which_stay_as_they_were(self):
        for plan, stand, t in planned.stands_of(181, 3):
            other, there = eval(repr(plan)), eval(repr(stand))
            for asked in (time_there, life_there):
                self.assertEqual(asked(other, there), asked(plan, stand))
            self.assertEqual(least_there(other, 2), least_there(plan, 2))
            self.assertEqual(within_there(other, 2), within_there(plan, 2))
            self.assertEqual(repr((other, there)), repr((plan, stand)))

    def test_least_ones_cover_no_other_ones(self):
        for plan in planned.small_plans(182, 4):
            for stores in least_there(plan, 3) + within_there(plan, 2):
                self.assertEqual(stores, sorted(set(stores)))
                for store in stores:
                    self.assertEqual([one for one in stores if covers(store, one)], [store])


if __name__ == "__main__":
    unittest.main()
