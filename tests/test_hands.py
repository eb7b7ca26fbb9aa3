import random
import time
import unittest

from everstock.errors import NoAsk, NoHouse, NoKind, NoSpare, NoStore, NoWay, StockError
from everstock.fates import book, life
from everstock.fates import time as time_of
from everstock.hands import Hand
from everstock.houses import covers, is_house, is_store, leads
from tests import boxed, by_words, heavy
from tests.boxed import NEVER_TAKES, ODD, ONE_ASK_WEARS, TO_AND_FRO, WEARS_OUT, changing
from tests.things import ANYTHING

SECONDS = 60
# A thing of the first kind for two of the second and back, or nothing at all given for one of the third.
CHANGE = (((-1, 2, 0), (1, -2, 0), (0, 0, -1)),)
NO_ASKS = ANYTHING + (-1, -2, 8, True, False, None, "0", "", [0], (0,), 10 ** 59)


def best_way(house, i, store):
    """The number of the first way to the longest life, for ever ahead of any number."""
    led = leads(house, i, store)
    lives = [life(house, reached) for _, reached in led]
    ranks = [99 if lived is None else lived for lived in lives]
    return led[ranks.index(max(ranks))][0]


def standing(hand):
    return hand.house(), hand.store(), hand.met(), hand.life()


class Point15Meet(unittest.TestCase):
    def test_by_the_way_to_the_longest_life(self):
        chance, seen = random.Random(150), []
        for house in boxed.small_houses(150, 15):
            store = tuple(chance.randint(0, 4) for _ in house[0][0])
            if by_words.time(house, store, 3) is None:
                continue
            hand = Hand(house, store)
            i = chance.randrange(len(house))
            led = leads(house, i, store)
            if led and all(by_words.time(house, reached, 3) is not None for _, reached in led):
                number = hand.meet(i)
                self.assertEqual(number, best_way(house, i, store), (house, i, store))
                self.assertEqual(hand.store(), dict(led)[number])
                self.assertEqual(hand.met(), [(i, number)])
                seen.append(number)
        self.assertGreater(seen.count(0), 10)
        self.assertGreater(len(seen) - seen.count(0), 10)

    def test_for_ever_ahead_of_any_number(self):
        # The first way leads to fifteen asks, the second one to what lasts for ever.
        house = (((-1, 0, 15), (0, 0, 0), (0, 0, 0)), ((0, 0, -1), (-1, 1, 0), (0, -1, 0), (1, -1, 0)))
        hand = Hand(house, (1, 0, 0))
        self.assertEqual(life(house, (0, 0, 15)), 15)
        self.assertIsNone(life(house, (1, 0, 0)))
        self.assertEqual(hand.meet(0), 1)
        self.assertEqual(hand.store(), (1, 0, 0))

    def test_the_first_of_alike_ones(self):
        self.assertEqual(Hand((((-1,), (-1,), (-1,)),), (4,)).meet(0), 0)
        self.assertEqual(Hand((((-2,), (-1,), (-1,)),), (4,)).meet(0), 1)
        self.assertEqual(Hand((((-1, 0), (0, 0), (1, 0), (0, 5)),), (1, 1)).meet(0), 0)
        self.assertEqual(Hand((((-9, 0), (0, 0), (1, 0), (0, 5)),), (1, 1)).meet(0), 1)
        # By both ways three asks are left: two lives of like length.
        self.assertEqual(Hand((((-1, 0), (0, -1)),), (2, 2)).meet(0), 0)

    def test_a_way_that_leads_to_none_is_no_way(self):
        hand = Hand((((-5, 0), (0, -1)),), (3, 1))
        self.assertEqual(hand.meet(0), 1)
        self.assertEqual(hand.store(), (3, 0))

    def test_met_over_and_over(self):
        hand = Hand(CHANGE, (1, 0, 2))
        met = [hand.meet(0) for _ in range(5)]
        self.assertEqual(met, [0, 1, 0, 1, 0])
        self.assertEqual(hand.met(), [(0, 0), (0, 1), (0, 0), (0, 1), (0, 0)])
        self.assertEqual(hand.store(), (0, 2, 2))

    def test_as_many_asks_as_its_life(self):
        many = 0
        for house in boxed.small_houses(151, 6):
            store = (2,) * len(house[0][0])
            t = by_words.time(house, store, 4)
            if t is None or life(house, store) is None:
                continue
            hand = Hand(house, store)
            for left in range(life(house, store), 0, -1):
                hand.meet(book(house, hand.store())[hand.store()][1])
                self.assertEqual(hand.life(), left - 1)
            many += 1
        self.assertGreater(many, 10)

    def test_no_ask(self):
        hand = Hand(TO_AND_FRO * 3, (1, 1))
        for thing in NO_ASKS + (3,):
            if type(thing) is int and thing in (0, 1, 2):
                continue
            before = standing(hand)
            with self.assertRaises(NoAsk) as caught:
                hand.meet(thing)
            self.assertIs(caught.exception.number, thing)
            self.assertEqual(standing(hand), before)
        self.assertIsNone(hand.undo())

    def test_no_way(self):
        hand = Hand((((-1, 0), (0, -2)), ((0, 0),)), (1, 1))
        hand.meet(0)
        before = standing(hand)
        with self.assertRaises(NoWay):
            hand.meet(0)
        self.assertEqual(standing(hand), before)
        self.assertEqual(hand.undo(), "meet")
        self.assertIsNone(hand.undo())


class Point15BringAndTake(unittest.TestCase):
    def test_bring(self):
        hand = Hand(TO_AND_FRO, (0, 0))
        self.assertEqual(hand.life(), 0)
        self.assertIsNone(hand.bring((0, 1)))
        self.assertIsNone(hand.life())
        hand.bring((0, 0))
        hand.bring((10 ** 59, 2))
        self.assertEqual(hand.store(), (10 ** 59, 3))
        self.assertEqual([hand.undo() for _ in range(4)], ["bring", "bring", "bring", None])
        self.assertEqual(hand.store(), (0, 0))

    def test_take(self):
        hand = Hand(TO_AND_FRO, (3, 2))
        self.assertIsNone(hand.take((3, 1)))
        self.assertEqual(hand.store(), (0, 1))
        hand.take((0, 0))
        with self.assertRaises(NoSpare):
            hand.take((0, 1))
        self.assertEqual(hand.store(), (0, 1))
        self.assertEqual([hand.undo() for _ in range(3)], ["take", "take", None])
        self.assertEqual(hand.store(), (3, 2))

    def test_take_all_of_a_kind(self):
        hand = Hand(TO_AND_FRO, (3, 2))
        hand.take((0, 2))
        with self.assertRaises(NoSpare):
            hand.take((3, 0))
        hand.take((2, 0))
        self.assertEqual(hand.store(), (1, 0))

    def test_one_more_than_can_be_spared(self):
        rows = [(changing(n), (0, n + more)) for n in range(1, 8) for more in range(3)]
        rows += [(house, (4,) * len(house[0][0])) for house in boxed.small_houses(152, 4)]
        many = 0
        for house, store in rows:
            if not boxed.all_below_known(house, store) or life(house, store) is not None:
                continue
            hand = Hand(house, store)
            for kind in range(len(store)):
                spare = hand.spare(kind)
                some = tuple(spare if one == kind else 0 for one in range(len(store)))
                more = tuple(spare + 1 if one == kind else 0 for one in range(len(store)))
                with self.assertRaises(NoStore if spare == store[kind] else NoSpare):
                    hand.take(more)
                hand.take(some)
                self.assertEqual(hand.undo(), "take")
                many += 0 < spare < store[kind]
        self.assertGreater(many, 10)

    def test_what_does_not_last_has_nothing_to_spare(self):
        hand = Hand(WEARS_OUT, (5,))
        for many in range(6):
            with self.assertRaises(NoSpare):
                hand.take((many,))
        self.assertEqual(hand.store(), (5,))

    def test_no_store(self):
        hand = Hand(TO_AND_FRO, (3, 2))
        before = standing(hand)
        for thing in ANYTHING + ODD + ((1, -1), (1,), (1, 1, 1), [1, 1], (True, 1), (1, None), "11", ("1", 1)):
            if is_store(TO_AND_FRO, thing):
                continue
            for deed in (hand.bring, hand.take):
                with self.assertRaises(NoStore):
                    deed(thing)
            self.assertEqual(standing(hand), before)
        self.assertIsNone(hand.undo())

    def test_more_than_is_there(self):
        hand = Hand(TO_AND_FRO, (3, 2))
        for store in ((4, 0), (0, 3), (4, 3), (10 ** 59, 0), (4, 2)):
            # NoStore goes ahead of NoSpare.
            with self.assertRaises(NoStore):
                hand.take(store)
        for store in ((3, 2),):
            with self.assertRaises(NoSpare):
                hand.take(store)
        self.assertEqual(hand.store(), (3, 2))
        worn = Hand(WEARS_OUT, (2,))
        with self.assertRaises(NoStore):
            worn.take((3,))


class Point15AddAndDrop(unittest.TestCase):
    def test_add_behind_the_others(self):
        hand = Hand(TO_AND_FRO, (2, 3))
        self.assertIsNone(hand.life())
        self.assertIsNone(hand.add(((0, -1),)))
        self.assertEqual(hand.house(), TO_AND_FRO + (((0, -1),),))
        self.assertEqual(hand.life(), 3)
        hand.add(((1, 1), (0, 0)))
        self.assertEqual(hand.house(), TO_AND_FRO + (((0, -1),), ((1, 1), (0, 0))))
        self.assertEqual(hand.meet(1), 0)
        self.assertEqual(hand.meet(2), 0)
        self.assertEqual([hand.undo() for _ in range(5)], ["meet", "meet", "add", "add", None])
        self.assertEqual(standing(hand), (TO_AND_FRO, (2, 3), [], None))

    def test_a_ninth_ask(self):
        hand = Hand(TO_AND_FRO * 7, (2, 3))
        hand.add(TO_AND_FRO[0])
        for _ in range(2):
            with self.assertRaises(NoHouse):
                hand.add(TO_AND_FRO[0])
        with self.assertRaises(NoHouse):
            hand.add(None)
        self.assertEqual(hand.house(), TO_AND_FRO * 8)
        hand.drop(3)
        hand.add(((1, 1),))
        self.assertEqual(hand.house(), TO_AND_FRO * 7 + (((1, 1),),))

    def test_no_house(self):
        hand = Hand(TO_AND_FRO, (2, 3))
        before = standing(hand)
        ask = TO_AND_FRO[0]
        for thing in ANYTHING + ODD + (
            list(ask), (), ((1,),), ((1, 1, 1),), ((1, 1), (1,)), ((1, 1), (1, 1, 1)), ((1, True),), ((1, 100),),
            ((-100, 1),), ((1, 1),) * 6, (ask,), ([1, 1],), ((1, None),), ask + (7,), "ab", TO_AND_FRO,
        ):
            if is_house((thing,)) and len(thing[0]) == 2:
                continue
            with self.assertRaises(NoHouse):
                hand.add(thing)
            self.assertEqual(standing(hand), before)
        self.assertIsNone(hand.undo())
        hand.add(((99, -99),) * 5)
        self.assertEqual(hand.house()[1], ((99, -99),) * 5)

    def test_drop(self):
        one, two, three = ((0, -1),), ((-1, 1), (1, -1)), ((0, 0),)
        hand = Hand((one, two, three), (1, 1))
        self.assertIsNone(hand.drop(1))
        self.assertEqual(hand.house(), (one, three))
        self.assertEqual(hand.life(), 1)
        hand.drop(0)
        self.assertEqual(hand.house(), (three,))
        self.assertIsNone(hand.life())
        with self.assertRaises(NoAsk) as caught:
            hand.drop(0)
        self.assertEqual(caught.exception.number, 0)
        self.assertEqual(hand.house(), (three,))
        self.assertEqual([hand.undo() for _ in range(3)], ["drop", "drop", None])
        self.assertEqual(hand.house(), (one, two, three))

    def test_drop_what_is_no_ask(self):
        hand, only = Hand(TO_AND_FRO * 3, (1, 1)), Hand(TO_AND_FRO, (1, 1))
        for thing in NO_ASKS + (3,):
            if type(thing) is int and thing in (0, 1, 2):
                continue
            for one in (hand, only):
                before = standing(one)
                with self.assertRaises(NoAsk) as caught:
                    one.drop(thing)
                self.assertIs(caught.exception.number, thing)
                self.assertEqual(standing(one), before)
                self.assertIsNone(one.undo())

    def test_met_keeps_its_numbers_when_an_ask_goes(self):
        hand = Hand((((0, -1),), ((-1, 1), (1, -1)), ((0, 0), (0, 0))), (1, 1))
        hand.meet(2)
        hand.meet(1)
        hand.drop(0)
        self.assertEqual(hand.met(), [(2, 0), (1, 0)])
        hand.meet(1)
        self.assertEqual(hand.met(), [(2, 0), (1, 0), (1, 0)])
        hand.drop(0)
        self.assertEqual(hand.met(), [(2, 0), (1, 0), (1, 0)])
        self.assertEqual([hand.undo() for _ in range(3)], ["drop", "meet", "drop"])
        self.assertEqual(hand.met(), [(2, 0), (1, 0)])


class Point15Spare(unittest.TestCase):
    def test_by_all_numbers_gone_through(self):
        chance, seen = random.Random(153), []
        for house in boxed.small_houses(153, 25):
            store = tuple(chance.randint(0, 6) for _ in house[0][0])
            if not boxed.all_below_known(house, store):
                continue
            hand = Hand(house, store)
            for kind in range(len(store)):
                lasting = [number for number in range(store[kind] + 1)
                           if life(house, store[:kind] + (number,) + store[kind + 1:]) is None]
                expected = store[kind] - min(lasting) if lasting else None
                told = hand.spare(kind)
                self.assertEqual(told, expected, (house, store, kind))
                seen.append(told is not None and 0 < told < store[kind])
        self.assertGreater(seen.count(True), 20)

    def test_by_hand(self):
        hand = Hand(changing(3), (4, 5))
        self.assertEqual((hand.spare(0), hand.spare(1)), (4, 5))
        hand.take((4, 0))
        self.assertEqual((hand.spare(0), hand.spare(1)), (0, 2))
        hand.take((0, 2))
        self.assertEqual((hand.spare(0), hand.spare(1)), (0, 0))

    def test_none_where_the_store_does_not_last(self):
        self.assertIsNone(Hand(WEARS_OUT, (9,)).spare(0))
        self.assertIsNone(Hand(changing(3), (0, 2)).spare(0))
        self.assertIsNone(Hand(changing(3), (0, 2)).spare(1))
        self.assertIsNone(Hand(WEARS_OUT, (0,)).spare(0))

    def test_great_numbers(self):
        begun = time.monotonic()
        hand = Hand(changing(16), (0, 10 ** 59))
        self.assertEqual(hand.spare(1), 10 ** 59 - 16)
        self.assertEqual(Hand(NEVER_TAKES, (10 ** 59, 1)).spare(0), 10 ** 59)
        self.assertLess(time.monotonic() - begun, SECONDS)

    def test_no_kind(self):
        for hand in (Hand(TO_AND_FRO, (1, 1)), Hand(TO_AND_FRO, (0, 0))):
            for thing in ANYTHING + (2, 3, -1, -2, True, False, None, "0", [0], (0,), 10 ** 59):
                if type(thing) is int and thing in (0, 1):
                    continue
                with self.assertRaises(NoKind) as caught:
                    hand.spare(thing)
                self.assertIs(caught.exception.number, thing)


class Point15UndoAndFork(unittest.TestCase):
    def test_undo_of_each_deed_and_further_back(self):
        hand = Hand(TO_AND_FRO, (1, 1))
        stands = [standing(hand)]
        deeds = (("meet", (0,)), ("bring", ((2, 3),)), ("take", ((1, 0),)), ("add", (((0, -1), (0, 0)),)),
                 ("meet", (1,)), ("drop", (0,)), ("meet", (0,)), ("add", (((1, 1),),)), ("drop", (1,)))
        for word, its in deeds:
            getattr(hand, word)(*its)
            stands.append(standing(hand))
        for word, _ in reversed(deeds):
            self.assertEqual(standing(hand), stands.pop())
            self.assertEqual(hand.undo(), word)
        self.assertEqual(standing(hand), stands.pop())
        for _ in range(3):
            self.assertIsNone(hand.undo())
        self.assertEqual(standing(hand), (TO_AND_FRO, (1, 1), [], None))
        hand.meet(0)
        self.assertEqual(hand.met(), [(0, 0)])

    def test_what_is_refused_is_no_deed(self):
        hand = Hand(TO_AND_FRO, (1, 1))
        hand.bring((1, 0))
        for word, thing in (("meet", 1), ("bring", None), ("take", (9, 9)), ("take", (2, 1)), ("add", 5), ("drop", 0)):
            with self.assertRaises(StockError):
                getattr(hand, word)(thing)
        self.assertEqual(hand.undo(), "bring")
        self.assertIsNone(hand.undo())

    def test_met_without_what_is_undone(self):
        hand = Hand(CHANGE, (1, 0, 0))
        hand.meet(0)
        hand.meet(0)
        hand.undo()
        self.assertEqual(hand.met(), [(0, 0)])
        hand.bring((0, 0, 1))
        hand.undo()
        self.assertEqual(hand.met(), [(0, 0)])
        hand.undo()
        self.assertEqual(hand.met(), [])

    def test_fork(self):
        hand = Hand(TO_AND_FRO, (1, 1))
        hand.meet(0)
        hand.bring((1, 0))
        other = hand.fork()
        self.assertIs(type(other), Hand)
        self.assertEqual(standing(other), standing(hand))
        other.add(((0, -1),))
        other.meet(1)
        self.assertEqual(hand.house(), TO_AND_FRO)
        self.assertEqual(hand.met(), [(0, 0)])
        hand.take((1, 0))
        self.assertEqual(other.store(), (1, 1))
        self.assertEqual([hand.undo() for _ in range(4)], ["take", "bring", "meet", None])
        self.assertEqual([other.undo() for _ in range(5)], ["meet", "add", "bring", "meet", None])
        self.assertEqual(standing(other), standing(hand))

    def test_a_fork_of_a_fork(self):
        hand = Hand(changing(2), (1, 0))
        hand.meet(0)
        one = hand.fork()
        one.meet(0)
        two = one.fork()
        two.meet(0)
        one.undo()
        one.undo()
        self.assertIsNone(one.undo())
        self.assertEqual(hand.met(), [(0, 0)])
        self.assertEqual(one.met(), [])
        self.assertEqual(two.met(), [(0, 0), (0, 1), (0, 0)])
        self.assertEqual([two.undo() for _ in range(4)], ["meet"] * 3 + [None])
        self.assertEqual(hand.store(), (0, 2))

    def test_many_deeds_at_random(self):
        chance, words = random.Random(154), []
        for house in boxed.small_houses(154, 5):
            store = tuple(chance.randint(0, 4) for _ in house[0][0])
            self.go_on(chance, words, house, store)
        for word in ("meet", "bring", "take", "add", "drop", "undo", "fork", "refused"):
            self.assertGreater(words.count(word), 20, word)

    def go_on(self, chance, words, house, store):
        """Deeds beside what they should come to: (hand, house, store, met, deeds)."""
        rows = [[Hand(house, store), house, store, [], []]]
        for _ in range(30):
            row = chance.choice(rows)
            hand, house, store, met, deeds = row
            word = chance.choice(("meet", "meet", "bring", "take", "add", "drop", "undo", "fork"))
            expected, thing = self.expected(chance, word, house, store)
            before = (house, store, list(met))
            if word == "undo":
                told = hand.undo()
                self.assertEqual(told, deeds[-1][0] if deeds else None)
                if deeds:
                    _, (row[1], row[2], row[3]) = deeds.pop()
            elif word == "fork":
                if len(rows) < 4:
                    rows.append([hand.fork(), house, store, list(met), list(deeds)])
            elif expected is None:
                continue
            elif isinstance(expected, type):
                with self.assertRaises(expected):
                    getattr(hand, word)(thing)
                word = "refused"
            else:
                told = getattr(hand, word)(thing)
                row[1], row[2] = expected
                if word == "meet":
                    row[3] = met + [(thing, told)]
                    self.assertEqual(told, best_way(house, thing, store))
                deeds.append((word, before))
            words.append(word)
            for one, house, store, met, _ in rows:
                self.assertEqual((one.house(), one.store(), one.met()), (house, store, met))

    def expected(self, chance, word, house, store):
        """An error or a pair (house, store), where no time is too great; and what is handed in."""
        kinds = len(store)
        if word == "meet":
            i = chance.randrange(len(house) + 1)
            if i == len(house):
                return NoAsk, i
            led = leads(house, i, store)
            if not led:
                return NoWay, i
            if any(by_words.time(house, one, 3) is None for _, one in led):
                return None, i
            return (house, dict(led)[best_way(house, i, store)]), i
        thing = tuple(chance.randint(0, 2) for _ in store)
        if word == "bring":
            return (house, tuple(one + more for one, more in zip(store, thing))), thing
        if word == "take":
            if not covers(store, thing):
                return NoStore, thing
            left = tuple(one - less for one, less in zip(store, thing))
            if by_words.time(house, left, 3) is None:
                return None, thing
            return (NoSpare if life(house, left) is not None else (house, left)), thing
        if word == "add":
            ask = by_words.random_house(chance, kinds if chance.random() < 0.9 else kinds % 4 + 1, 1, 3, 2)[0]
            right = len(ask[0]) == kinds and len(house) < 8
            return ((house + (ask,), store) if right else NoHouse), ask
        i = chance.randrange(len(house) + 1)
        if i == len(house) or len(house) == 1:
            return NoAsk, i
        return (house[:i] + house[i + 1:], store), i


class Points2And3(unittest.TestCase):
    def test_told_lists_changed(self):
        hand = Hand(TO_AND_FRO, (1, 1))
        hand.meet(0)
        told = hand.met()
        told.append("more")
        told[0] = None
        self.assertEqual(hand.met(), [(0, 0)])
        hand.meet(0)
        self.assertEqual(hand.met(), [(0, 0), (0, 1)])
        self.assertEqual(hand.fork().met(), [(0, 0), (0, 1)])

    def test_life_hangs_on_what_is_there_alone(self):
        hand = Hand(ONE_ASK_WEARS, (3,))
        hand.bring((4,))
        hand.meet(1)
        self.assertEqual((hand.store(), hand.life()), ((6,), 6))
        self.assertEqual(Hand(ONE_ASK_WEARS, (6,)).life(), 6)
        hand.drop(1)
        self.assertIsNone(hand.life())
        hand.add(((-2,),))
        self.assertEqual(hand.life(), 3)

    def test_two_hands_of_the_same_beside_one_another(self):
        one, other = Hand(TO_AND_FRO, (1, 1)), Hand(TO_AND_FRO, (1, 1))
        one.meet(0)
        self.assertEqual((one.store(), other.store()), ((0, 2), (1, 1)))
        self.assertIsNone(other.undo())
        self.assertEqual(one.undo(), "meet")


class GreatTimes(unittest.TestCase):
    def test_within_seconds(self):
        for house, store, t, lasting in heavy.FATES:
            begun = time.monotonic()
            hand = Hand(house, store)
            self.assertEqual(hand.life(), None if lasting else t - 1)
            for i in range(len(house)):
                led = [(number, reached) for number, reached in leads(house, i, store)]
                if all(time_of(house, reached) <= 16 for _, reached in led) and led:
                    self.assertEqual(hand.meet(i), best_way(house, i, store))
                    hand.undo()
                    break
            self.assertLess(time.monotonic() - begun, SECONDS)


if __name__ == "__main__":
    unittest.main()
