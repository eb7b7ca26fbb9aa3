import random
import time
import unittest
from itertools import permutations, product

from everstock.errors import NoAsk, NoRound, NoStore
from everstock.fates import keep, life
from everstock.houses import covers, is_store
from everstock.rounds import Rounder, is_round, is_wear, round_or_wear, rounds, share, shares, worn_by
from tests import boxed, by_words
from tests.boxed import NEVER_TAKES, ODD, ONE_ASK_WEARS, TO_AND_FRO, WEARS_OUT, changing
from tests.things import ANYTHING

SECONDS = 60
# Each way of these gives a kind for another one; all together they come to something just by great numbers.
GREAT_ROUND = ((-98, 97, 0, 0), (0, -98, 97, 0), (0, 0, -98, 97), (99, 0, 0, -96))
GREAT_WEAR = ((-97, 98, 0, 0), (0, -97, 98, 0), (0, 0, -97, 98), (96, 0, 0, -99))
HOUSE = (((1, -3), (-1, 3), (0, 0)), ((0, 1), (2, -1)), ((-2, 3), (1, -1)))
ROUNDS = ((1, 1, 0), (3, 2), (1, 2))


def random_ask(chance, kinds, ways, most):
    """An ask of which often one way makes up for the others, or nearly so."""
    told = [tuple(chance.randint(-most, most) for _ in range(kinds)) for _ in range(ways)]
    if ways > 1 and chance.random() < 0.7:
        counts = [chance.randint(0, 3) for _ in told[1:]]
        sums = [-sum(way[kind] * many for way, many in zip(told[1:], counts)) for kind in range(kinds)]
        told[0] = tuple(max(-99, min(99, number + chance.randint(-1, 1))) for number in sums)
    chance.shuffle(told)
    return tuple(told)


def asks_of_all_sizes(seed, many):
    chance = random.Random(seed)
    for kinds, ways, most in product(range(1, 5), range(1, 6), (1, 3, 30, 99)):
        for _ in range(many):
            yield random_ask(chance, kinds, ways, most)


class Point12IsRound(unittest.TestCase):
    def told(self, ask, thing, told):
        before = repr(thing)
        self.assertIs(is_round(ask, thing), told, (ask, thing))
        self.assertEqual(repr(thing), before)

    def test_by_hand(self):
        ask = ((1, -3), (-1, 2), (0, 2))
        for thing, told in (
            ((1, 1, 1), True), ((1, 1, 0), False), ((0, 0, 1), True), ((0, 1, 0), False), ((2, 2, 1), True),
            ((3, 3, 1), False), ((0, 0, 0), False), ((10 ** 59, 10 ** 59, 10 ** 59), True),
            ((10 ** 59 - 1, 10 ** 59, 10 ** 59), False), ((10 ** 59, 10 ** 59, 10 ** 59 // 2), True),
            ((10 ** 59, 10 ** 59, 10 ** 59 // 2 - 1), False),
        ):
            self.told(ask, thing, told)

    def test_a_way_that_takes_nothing(self):
        for ask in (((0,),), ((5, 0),), ((-1,), (0,))):
            self.told(ask, (0,) * (len(ask) - 1) + (1,), True)
            self.told(ask, (0,) * len(ask), False)

    def test_no_round(self):
        ask = ((-1, 1), (1, -1))
        for thing in ((1,), (1, 1, 1), (), (-1, 1), (1, -1), (-1, -1), (True, 1), (1, True), (True, True), [1, 1],
                      ("1", 1), ("a", "b"), "11", None, True, 1, {0: 1, 1: 1}, ((1, 1),), (None, 1), ([1], 1), (0, 0),
                      (False, False), (1, 0), (0, 1), ((1,), (1,))):
            self.told(ask, thing, False)
        for thing in ((1, 1), (7, 7)):
            self.told(ask, thing, True)

    def test_of_anything_just_true_or_false(self):
        for thing in ANYTHING + ODD:
            for ask in (((-1, 1), (1, -1)), ((0,),), ((-1,),), ((0, 0, 0, 0),) * 4, ((1, 2),) * 2):
                self.told(ask, thing, by_words.is_round(ask, thing))
                self.told(ask, (thing,) * len(ask), by_words.is_round(ask, (thing,) * len(ask)))
            self.told(thing, (1, 1), False)

    def test_at_random(self):
        chance, seen = random.Random(120), []
        for ask in asks_of_all_sizes(120, 3):
            for _ in range(4):
                thing = tuple(chance.randint(0, 4) for _ in ask)
                self.told(ask, thing, by_words.is_round(ask, thing))
                seen.append(is_round(ask, thing))
        self.assertGreater(seen.count(True), 100)
        self.assertGreater(seen.count(False), 100)


class Point12IsWear(unittest.TestCase):
    def told(self, ask, thing, told):
        before = repr(thing)
        self.assertIs(is_wear(ask, thing), told, (ask, thing))
        self.assertEqual(repr(thing), before)

    def test_by_hand(self):
        ask = ((1, -3), (-1, 2))
        for thing, told in (
            ((5, 2), True), ((2, 1), False), ((3, 1), False), ((1, 1), False), ((0, 0), False), ((7, 3), True),
            ((5 * 10 ** 58, 2 * 10 ** 58), True), ((2 * 10 ** 58 + 1, 10 ** 58), True), ((2 * 10 ** 58, 10 ** 58), False),
        ):
            self.told(ask, thing, told)
        self.told(((-1, 50),), (1, 0), True)
        self.told(((-1, 50),), (49, 1), False)
        self.told(((-1, 50),), (51, 1), True)
        self.told(((0,),), (7,), False)

    def test_no_wear(self):
        ask = ((-1, -1), (-2, 0), (0, -3))
        for thing in ((1,), (1, 1, 1), (), (-1, 1), (1, -1), (5, -1), (True, 1), (1, True), (True, True), [1, 1],
                      ("1", 1), "11", None, True, 1, {0: 1, 1: 1}, ((1, 1),), (None, 1), ([1], 1), (0, 0), (1, 0),
                      (0, 1), (False, 1)):
            self.told(ask, thing, False)
        for thing in ((1, 1), (7, 8), (10 ** 59, 1)):
            self.told(ask, thing, True)

    def test_of_anything_just_true_or_false(self):
        for thing in ANYTHING + ODD:
            for ask in (((-1, 1), (1, -2)), ((-1,),), ((0,),), ((-1, -1, -1, -1),) * 4, ((-1, -2),) * 3):
                self.told(ask, thing, by_words.is_wear(ask, thing))
                several = (thing,) * len(ask[0])
                self.told(ask, several, by_words.is_wear(ask, several))
            self.told(thing, (1, 1), False)

    def test_at_random(self):
        chance, seen = random.Random(121), []
        for ask in asks_of_all_sizes(121, 3):
            for _ in range(4):
                thing = tuple(chance.randint(0, 9) for _ in ask[0])
                self.told(ask, thing, by_words.is_wear(ask, thing))
                seen.append(is_wear(ask, thing))
        self.assertGreater(seen.count(True), 50)
        self.assertGreater(seen.count(False), 100)


class Point12RoundOrWear(unittest.TestCase):
    def kind_of(self, ask):
        """Which of both is told, once it is seen that it is one."""
        told = round_or_wear(ask)
        self.assertIs(type(told), tuple)
        word, numbers = told
        self.assertIn(word, ("round", "wear"))
        right = by_words.is_round if word == "round" else by_words.is_wear
        self.assertTrue(right(ask, numbers), (ask, told))
        self.assertEqual(round_or_wear(tuple(tuple(way) for way in ask)), told)
        return word

    def test_of_all_sizes(self):
        chance, seen = random.Random(122), []
        for ask in asks_of_all_sizes(122, 12):
            word = self.kind_of(ask)
            seen.append(word)
            # Never is the other word true of the ask, too.
            for _ in range(5):
                if word == "round":
                    thing = tuple(chance.randint(0, 9) for _ in ask[0])
                    self.assertFalse(by_words.is_wear(ask, thing))
                else:
                    thing = tuple(chance.randint(0, 9) for _ in ask)
                    self.assertFalse(by_words.is_round(ask, thing))
        self.assertGreater(seen.count("round"), 200)
        self.assertGreater(seen.count("wear"), 200)

    def test_of_great_numbers_alone(self):
        self.assertEqual(self.kind_of(GREAT_ROUND), "round")
        self.assertEqual(self.kind_of(GREAT_WEAR), "wear")
        for one, other in ((GREAT_ROUND, "round"), (GREAT_WEAR, "wear")):
            for kinds in permutations(range(4)):
                ask = tuple(tuple(way[kind] for kind in kinds) for way in one)
                self.assertEqual(self.kind_of(ask), other)
            for ways in permutations(one):
                self.assertEqual(self.kind_of(ways), other)
                self.assertEqual(self.kind_of(ways + ((-1, 0, 0, 0),)), other)
                self.assertEqual(self.kind_of(ways[:2] + ((0, 0, 0, 0),) + ways[2:]), "round")

    def test_just_so_and_one_less(self):
        # 99 times the one way and 98 times the other one come to nothing at all.
        self.assertEqual(self.kind_of(((-98, 99), (99, -98))), "round")
        self.assertEqual(self.kind_of(((98, -99), (-99, 98))), "wear")
        self.assertEqual(self.kind_of(((98, -99), (-98, 99))), "round")
        self.assertEqual(self.kind_of(((97, -99), (-98, 99))), "wear")
        self.assertEqual(self.kind_of(((98, -99), (-98, 98))), "wear")

    def test_of_one_way(self):
        for numbers in product((-99, -1, 0, 1, 99), repeat=2):
            self.assertEqual(self.kind_of((numbers,)), "round" if min(numbers) >= 0 else "wear")
        for number in range(-99, 100):
            self.assertEqual(self.kind_of(((number,),)), "round" if number >= 0 else "wear")

    def test_a_way_that_takes_nothing(self):
        self.assertEqual(self.kind_of(((-9, 4), (0, 0))), "round")
        self.assertEqual(self.kind_of(((-9, 4), (3, 0), (-1, -1))), "round")

    def test_ways_and_kinds_in_another_order(self):
        chance = random.Random(123)
        for _ in range(60):
            ask = random_ask(chance, chance.randint(2, 4), chance.randint(2, 5), 99)
            word = self.kind_of(ask)
            for _ in range(5):
                kinds = chance.sample(range(len(ask[0])), len(ask[0]))
                other = tuple(tuple(way[kind] for kind in kinds) for way in chance.sample(ask, len(ask)))
                self.assertEqual(self.kind_of(other), word)

    def test_two_kinds_or_ways_alike(self):
        self.assertEqual(self.kind_of(((-1, -1), (1, 1))), "round")
        self.assertEqual(self.kind_of(((-1, -1), (-1, -1))), "wear")
        self.assertEqual(self.kind_of(((-2, 1, 1, 0), (1, -2, 1, 0), (1, 1, -2, 0))), "round")
        self.assertEqual(self.kind_of(((-3, 1, 1, 0), (1, -3, 1, 0), (1, 1, -3, 0))), "wear")

    def test_an_ask_with_a_wear_wears_out_each_store(self):
        chance = random.Random(124)
        many = 0
        for ask in asks_of_all_sizes(124, 2):
            word, weights = round_or_wear(ask)
            if word == "wear" and len(ask) < 4:
                store = tuple(chance.randint(0, 2) for _ in ask[0])
                most = sum(number * weight for number, weight in zip(store, weights))
                if most <= 15:
                    lived = life((ask,), store)
                    self.assertIsNotNone(lived)
                    self.assertLessEqual(lived, most)
                    many += 1
        self.assertGreater(many, 20)


class Point13WornByAndRounds(unittest.TestCase):
    def test_by_the_words(self):
        chance, seen = random.Random(130), []
        for _ in range(150):
            kinds = chance.randint(1, 4)
            house = tuple(random_ask(chance, kinds, chance.randint(1, 5), chance.choice((2, 9, 99)))
                          for _ in range(chance.choice((1, 1, 2, 3, 8))))
            words = [round_or_wear(ask)[0] for ask in house]
            worn, told = worn_by(house), rounds(house)
            if "wear" in words:
                self.assertIs(type(worn), tuple)
                i, wear = worn
                self.assertEqual(i, words.index("wear"))
                self.assertTrue(by_words.is_wear(house[i], wear))
                self.assertIsNone(told)
            else:
                self.assertIsNone(worn)
                self.assertIs(type(told), tuple)
                self.assertEqual(len(told), len(house))
                for ask, one in zip(house, told):
                    self.assertTrue(by_words.is_round(ask, one))
            seen.append(told is None)
        self.assertGreater(seen.count(True), 20)
        self.assertGreater(seen.count(False), 20)

    def test_by_hand(self):
        self.assertIsNone(worn_by(NEVER_TAKES))
        self.assertIsNone(worn_by(TO_AND_FRO))
        self.assertEqual(worn_by(ONE_ASK_WEARS)[0], 1)
        self.assertEqual(worn_by(WEARS_OUT)[0], 0)
        self.assertEqual(worn_by(TO_AND_FRO * 7 + (((-1, 0),),))[0], 7)
        self.assertEqual(worn_by((((0, -1),), ((-1, 0),)))[0], 0)
        self.assertIsNone(rounds(WEARS_OUT))
        self.assertIsNone(rounds(ONE_ASK_WEARS))
        self.assertIsNone(rounds(TO_AND_FRO * 7 + (((-1, 0),),)))
        self.assertGreater(rounds((((0,),),))[0][0], 0)


class Point13Shares(unittest.TestCase):
    def test_step_by_step(self):
        chance, many = random.Random(131), 0
        for ask in asks_of_all_sizes(131, 4):
            word, told = round_or_wear(ask)
            if word == "round":
                for one in (told, tuple(number * 2 for number in told)):
                    if sum(one) < 20000:
                        result = share(ask, one)
                        self.assertIs(type(result), tuple)
                        self.assertEqual(result, by_words.share(ask, one), (ask, one))
                        many += 0 in one
        self.assertGreater(many, 100)

    def test_by_hand(self):
        self.assertEqual(share(((1, -3), (-1, 2), (0, 2)), (2, 2, 1)), (0, 6))
        self.assertEqual(share(((-1, 2), (1, -3), (0, 2)), (2, 2, 1)), (2, 2))
        self.assertEqual(share(((-5, 3), (0, 1)), (0, 1)), (0, 0))
        self.assertEqual(share(((-5, 0), (0, 1), (5, -1)), (3, 0, 3)), (15, 3))
        self.assertEqual(share(((0,),), (9,)), (0,))
        self.assertEqual(share(((5,), (-3,)), (1, 1)), (0,))
        self.assertEqual(share(((-3,), (5,)), (1, 1)), (3,))

    def test_great_numbers_at_once(self):
        many = 10 ** 50
        begun = time.monotonic()
        self.assertEqual(share(((-1, 1), (1, -1)), (many, many)), (many, 0))
        self.assertEqual(share(((1, -1), (-1, 1)), (many, many)), (0, many))
        self.assertLess(time.monotonic() - begun, SECONDS)

    def test_shares_are_all_of_them_together(self):
        self.assertEqual(shares(HOUSE, ROUNDS), (0 + 0 + 2, 3 + 0 + 0))
        self.assertEqual(shares(HOUSE, ((2, 2, 1), (1, 1), (2, 4))), (4, 6))
        chance = random.Random(132)
        for _ in range(60):
            kinds = chance.randint(1, 4)
            house = tuple(random_ask(chance, kinds, chance.randint(1, 4), 9) for _ in range(chance.randint(1, 8)))
            told = rounds(house)
            if told is not None:
                all_shares = [share(ask, one) for ask, one in zip(house, told)]
                result = shares(house, told)
                self.assertEqual(result, tuple(map(sum, zip(*all_shares))))
                self.assertTrue(is_store(house, result))

    def test_they_last_for_ever(self):
        many = 0
        for house in boxed.small_houses(133, 12):
            told = rounds(house)
            if told is not None and max(shares(house, told)) <= 5:
                store = shares(house, told)
                self.assertIsNone(life(house, store), (house, store))
                self.assertTrue(any(covers(store, one) for one in keep(house, store)))
                many += 1
        self.assertGreater(many, 30)


class Point13Rounder(unittest.TestCase):
    def follow(self, house, told, store, asks):
        """Many asks one behind the other, each by its own round, as the words say."""
        rounder = Rounder(house, told, store)
        expected = [[way for way, many in enumerate(one) for _ in range(many)] for one in told]
        places = [0] * len(house)
        there = store
        for i in asks:
            way = expected[i][places[i] % len(expected[i])]
            places[i] += 1
            there = by_words.leads_to(house[i][way], there)
            self.assertIsNotNone(there)
            self.assertEqual(rounder.meet(i), way)
            self.assertEqual(rounder.store(), there)

    def test_many_asks(self):
        chance, many = random.Random(134), 0
        for _ in range(120):
            kinds = chance.randint(1, 4)
            house = tuple(random_ask(chance, kinds, chance.randint(1, 5), chance.choice((2, 9)))
                          for _ in range(chance.choice((1, 2, 3, 8))))
            told = rounds(house)
            if told is not None and max(map(sum, told)) < 2000:
                least = shares(house, told)
                more = tuple(number + chance.randint(0, 5) for number in least)
                for store in (least, more):
                    self.follow(house, told, store, [chance.randrange(len(house)) for _ in range(300)])
                    self.follow(house, told, store, [0] * 300)
                many += 1
        self.assertGreater(many, 30)

    def test_by_hand(self):
        rounder = Rounder(HOUSE, ROUNDS, (2, 3))
        self.assertEqual(rounder.store(), (2, 3))
        met = [rounder.meet(i) for i in (0, 1, 1, 2, 1, 0, 1, 2, 1, 2, 1, 2)]
        self.assertEqual(met, [0, 0, 0, 0, 0, 1, 1, 1, 1, 1, 0, 0])
        self.assertEqual(rounder.store(), (4, 9))

    def test_great_rounds(self):
        many = 10 ** 55
        rounder = Rounder((((-1, 1), (0, 0), (1, -1)),), ((many, 0, many),), (many, 0))
        self.assertEqual([rounder.meet(0) for _ in range(50)], [0] * 50)
        self.assertEqual(rounder.store(), (many - 50, 50))
        told = rounds((GREAT_ROUND,))
        rounder = Rounder((GREAT_ROUND,), told, shares((GREAT_ROUND,), told))
        for _ in range(1000):
            rounder.meet(0)
            self.assertGreaterEqual(min(rounder.store()), 0)

    def test_two_of_the_same_beside_one_another(self):
        one, other = Rounder(HOUSE, ROUNDS, (2, 3)), Rounder(HOUSE, ROUNDS, (2, 3))
        self.assertEqual([one.meet(1) for _ in range(4)], [0, 0, 0, 1])
        self.assertEqual(other.store(), (2, 3))
        self.assertEqual([other.meet(1) for _ in range(2)], [0, 0])
        self.assertEqual([one.meet(1) for _ in range(2)], [1, 0])
        self.assertEqual([other.meet(1) for _ in range(2)], [0, 1])

    def test_no_round(self):
        for thing in ANYTHING + ODD + (
            ROUNDS[:2], ROUNDS + ((1, 1),), list(ROUNDS), (ROUNDS[0], ROUNDS[1], list(ROUNDS[2])),
            (ROUNDS[0], ROUNDS[1], (1, 2, 0)), (ROUNDS[0], ROUNDS[1], (0, 0)), (ROUNDS[0], ROUNDS[1], (1, 1)),
            (ROUNDS[0], ROUNDS[1], (True, 2)), (ROUNDS[0], ROUNDS[1], (1, -2)), (ROUNDS[1], ROUNDS[0], ROUNDS[2]),
            (None,) * 3, ((0, 0, -1),) * 3, {0: 1, 1: 2, 2: 3}, "abc",
        ):
            for store in ((9, 9), (0, 0), None, "no store"):
                with self.assertRaises(NoRound):
                    Rounder(HOUSE, thing, store)

    def test_no_store(self):
        for thing in ANYTHING + ODD + ((1, 3), (2, 2), (0, 99), (99, 0), (2, 3, 3), (2,), [2, 3], (2, -3), ("2", 3),
                                       (True, 9), (9, True), (9, None), (9, [9]), "23"):
            with self.assertRaises(NoStore):
                Rounder(HOUSE, ROUNDS, thing)
        for store in ((2, 3), (2, 4), (10 ** 59, 3)):
            self.assertEqual(Rounder(HOUSE, ROUNDS, store).store(), store)

    def test_one_less_of_a_kind_than_the_shares(self):
        chance, many = random.Random(135), 0
        for _ in range(60):
            house = tuple(random_ask(chance, 3, chance.randint(2, 4), 5) for _ in range(3))
            told = rounds(house)
            if told is not None:
                least = shares(house, told)
                Rounder(house, told, least)
                for kind in range(3):
                    if least[kind]:
                        with self.assertRaises(NoStore):
                            Rounder(house, told, least[:kind] + (least[kind] - 1,) + least[kind + 1:])
                        many += 1
        self.assertGreater(many, 20)

    def test_no_ask_and_nothing_changed_by_it(self):
        rounder = Rounder(HOUSE, ROUNDS, (3, 4))
        expected = Rounder(HOUSE, ROUNDS, (3, 4))
        for thing in ANYTHING + (3, 4, -1, -2, -3, True, False, None, "0", "", [0], (0,), 10 ** 59):
            if type(thing) is int and thing in (0, 1, 2):
                continue
            before = rounder.store()
            with self.assertRaises(NoAsk) as caught:
                rounder.meet(thing)
            self.assertIs(caught.exception.number, thing)
            self.assertEqual(rounder.store(), before)
            for i in range(3):
                self.assertEqual(rounder.meet(i), expected.meet(i))
            self.assertEqual(rounder.store(), expected.store())


class Points2And3(unittest.TestCase):
    def test_an_ask_with_a_wear_or_a_store_that_lasts(self):
        for house in boxed.small_houses(136, 10):
            self.assertIs(worn_by(house) is None, rounds(house) is not None)

    def test_a_changed_number_makes_the_other_one_of_both(self):
        self.assertIsNone(worn_by(changing(5)))
        self.assertEqual(worn_by((((-1, 5), (1, -6)),))[0], 0)


if __name__ == "__main__":
    unittest.main()
