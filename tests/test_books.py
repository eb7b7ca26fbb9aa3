import random
import time
import unittest

from everstock.books import is_book, played
from everstock.errors import NoBook
from everstock.fates import book, life
from everstock.houses import covers, leads
from tests import boxed, by_words, heavy
from tests.boxed import NEVER_TAKES, ODD, ONE_ASK_WEARS, WEARS_OUT
from tests.things import ANYTHING

SECONDS = 60
# The first ask takes a thing of the one kind or of the other; the second two of the first kind.
TWO_ASKS = (((-1, 0), (0, -1)), ((-2, 0),))
TWO_BOOK = {(1, 1): (3, 0), (1, 0): (2, 0), (0, 1): (2, 0), (0, 0): (1, 0)}


def worn_ones(seed, many, most=6):
    """Houses, stores of them that don't last for ever, and their lives."""
    chance = random.Random(seed)
    for house in boxed.small_houses(seed, many):
        store = tuple(chance.randint(0, 4) for _ in house[0][0])
        t = by_words.time(house, store, most if len(store) < 4 else 3)
        if t is not None and life(house, store) is not None:
            yield house, store, t - 1


def first_way(house):
    return lambda i, store: leads(house, i, store)[0][0]


def way_that_leaves_most(house):
    return lambda i, store: max(leads(house, i, store), key=lambda pair: (sum(pair[1]), -pair[0]))[0]


def longest_way(house):
    return lambda i, store: max(leads(house, i, store), key=lambda pair: (life(house, pair[1]), -pair[0]))[0]


class Point10IsBook(unittest.TestCase):
    def told(self, house, store, thing, told):
        before = repr(thing)
        self.assertIs(is_book(house, store, thing), told, (house, store, thing))
        self.assertEqual(repr(thing), before)

    def as_words(self, house, store, thing):
        self.told(house, store, thing, by_words.is_book(house, store, thing))

    def changed(self, key, told):
        return {**TWO_BOOK, key: told}

    def test_told_books_hold(self):
        many = 0
        for house, store, _ in worn_ones(110, 15):
            told = book(house, store)
            for there in told:
                self.told(house, there, told, True)
            self.told(house, tuple(n + 1 for n in store), told,
                      any(covers(one, tuple(n + 1 for n in store)) for one in told))
            many += 1
        self.assertGreater(many, 30)

    def test_by_hand(self):
        for store in TWO_BOOK:
            self.told(TWO_ASKS, store, TWO_BOOK, True)
        for store in ((2, 0), (0, 2), (1, 2), (2, 1), (10 ** 59, 0)):
            self.told(TWO_ASKS, store, TWO_BOOK, False)
        self.told(WEARS_OUT, (0,), {(0,): (1, 0)}, True)
        self.told(WEARS_OUT, (1,), {(0,): (1, 0)}, False)
        self.told(WEARS_OUT, (1,), {(1,): (1, 0)}, False)
        self.told(WEARS_OUT, (1,), {(1,): (2, 0), (0,): (1, 0)}, True)
        self.told(ONE_ASK_WEARS, (0,), {(0,): (1, 0)}, False)
        self.told(ONE_ASK_WEARS, (0,), {(0,): (1, 1)}, True)
        self.told(NEVER_TAKES, (0, 0), {(0, 0): (1, 0)}, False)

    def test_the_empty_dict_holds_for_nothing(self):
        self.told(WEARS_OUT, (0,), {}, False)
        self.told(NEVER_TAKES, (0, 0), {}, False)

    def test_what_is_led_to_may_be_less_than_a_store_of_the_book(self):
        self.told((((-3,),),), (5,), {(5,): (2, 0), (2,): (1, 0)}, True)
        self.told((((-3,),),), (4,), {(5,): (2, 0), (2,): (1, 0)}, True)
        self.told((((-4,),),), (5,), {(5,): (2, 0), (2,): (1, 0)}, True)
        # Led to is (3,), and no store of the book covers it.
        self.told((((-2,),),), (5,), {(5,): (2, 0), (2,): (1, 0)}, False)

    def test_an_entry_out(self):
        for key in TWO_BOOK:
            rest = {there: pair for there, pair in TWO_BOOK.items() if there != key}
            self.as_words(TWO_ASKS, (1, 1), rest)
            # What is led to is in (1, 0) and (0, 1): of (0, 0) each comes to none else.
            self.told(TWO_ASKS, (1, 1), rest, False)

    def test_an_entry_more(self):
        self.told(TWO_ASKS, (1, 1), self.changed((2, 0), (3, 0)), True)
        self.told(TWO_ASKS, (1, 1), self.changed((2, 0), (2, 1)), True)
        self.told(TWO_ASKS, (1, 1), self.changed((2, 0), (2, 0)), False)
        self.told(TWO_ASKS, (1, 1), self.changed((2, 0), (1, 1)), False)
        self.told(TWO_ASKS, (1, 1), self.changed((9, 9), (99, 0)), False)
        self.told(TWO_ASKS, (1, 1), self.changed((1, 1, 1), (9, 0)), False)

    def test_ranks(self):
        self.told(TWO_ASKS, (1, 1), self.changed((1, 1), (4, 0)), True)
        self.told(TWO_ASKS, (1, 1), self.changed((1, 1), (10 ** 59, 0)), True)
        self.told(TWO_ASKS, (1, 1), self.changed((1, 1), (2, 0)), False)
        self.told(TWO_ASKS, (1, 1), self.changed((1, 0), (3, 0)), False)
        self.told(TWO_ASKS, (1, 1), self.changed((0, 0), (2, 0)), False)
        self.told(TWO_ASKS, (1, 1), self.changed((0, 0), (0, 0)), False)
        self.told(TWO_ASKS, (1, 1), self.changed((0, 0), (-1, 0)), False)
        self.told(TWO_ASKS, (1, 1), {there: (3, i) for there, (_, i) in TWO_BOOK.items()}, False)
        self.told(TWO_ASKS, (1, 1), {there: (rank + 1, i) for there, (rank, i) in TWO_BOOK.items()}, True)
        self.told(TWO_ASKS, (1, 1), {there: (rank - 1, i) for there, (rank, i) in TWO_BOOK.items()}, False)
        self.told(TWO_ASKS, (1, 1), {there: (0, i) for there, (_, i) in TWO_BOOK.items()}, False)

    def test_another_ask(self):
        for there, (rank, _) in TWO_BOOK.items():
            self.told(TWO_ASKS, (1, 1), self.changed(there, (rank, 1)), True)
            for i in (2, -1, -2, True, False, None, "0", (0,), [0], 10 ** 59):
                self.told(TWO_ASKS, (1, 1), self.changed(there, (rank, i)), False)

    def test_truths_for_numbers(self):
        self.told(TWO_ASKS, (1, 1), self.changed((0, 0), (True, 0)), False)
        self.told(TWO_ASKS, (1, 1), self.changed((0, 0), (1, False)), False)
        rest = {there: pair for there, pair in TWO_BOOK.items() if there != (1, 0)}
        self.told(TWO_ASKS, (1, 1), {**rest, (True, 0): (2, 0)}, False)
        self.told(TWO_ASKS, (1, 1), {**rest, (1, False): (2, 0)}, False)
        self.told(TWO_ASKS, (1, 1), {**rest, (1, 0): (2, 0)}, True)

    def test_lists_for_tuples_and_no_dicts(self):
        self.told(TWO_ASKS, (1, 1), list(TWO_BOOK.items()), False)
        self.told(TWO_ASKS, (1, 1), tuple(TWO_BOOK.items()), False)
        self.told(TWO_ASKS, (1, 1), self.changed((0, 0), [1, 0]), False)
        self.told(TWO_ASKS, (1, 1), self.changed((0, 0), (1,)), False)
        self.told(TWO_ASKS, (1, 1), self.changed((0, 0), (1, 0, 0)), False)

    def test_stores_with_more_and_with_less(self):
        for house, store, _ in worn_ones(111, 8):
            told = book(house, store)
            for one, pair in told.items():
                rest = {there: its for there, its in told.items() if there != one}
                for kind in range(len(one)):
                    for change in (1, -1):
                        other = one[:kind] + (one[kind] + change,) + one[kind + 1:]
                        self.as_words(house, store, {**rest, other: pair})
                if len(told) > 12:
                    break

    def test_of_another_house(self):
        self.told((TWO_ASKS[1], TWO_ASKS[0]), (1, 1), TWO_BOOK, True)
        self.told((((-1, 1), (0, -1)), ((-2, 0),)), (1, 1), TWO_BOOK, False)
        self.told(WEARS_OUT, (1,), TWO_BOOK, False)
        self.told(NEVER_TAKES, (1, 1), TWO_BOOK, False)

    def test_parts_changed(self):
        for house, store, told in ((TWO_ASKS, (1, 1), TWO_BOOK), (ONE_ASK_WEARS, (1,), {(1,): (2, 1), (0,): (1, 1)})):
            for thing in boxed.parts_changed(told, ODD):
                self.as_words(house, store, thing)

    def test_books_made_at_random(self):
        chance, told = random.Random(112), []
        for house, store, _ in worn_ones(112, 8):
            made = book(house, store)
            for _ in range(30):
                thing = {**made}
                for there in chance.sample(list(made), min(2, len(made))):
                    rank, i = thing.pop(there)
                    there = tuple(max(0, n + chance.choice((-1, 0, 0, 1))) for n in there)
                    thing[there] = (rank + chance.choice((-1, 0, 0, 1)), chance.choice((i, i, chance.randrange(len(house)))))
                self.as_words(house, store, thing)
                told.append(is_book(house, store, thing))
        self.assertGreater(told.count(True), 50)
        self.assertGreater(told.count(False), 50)

    def test_of_anything_just_true_or_false(self):
        for thing in ANYTHING:
            self.told(TWO_ASKS, (1, 1), thing, False)
            for key in TWO_BOOK:
                self.told(TWO_ASKS, (1, 1), self.changed(key, thing), False)
                self.told(TWO_ASKS, (1, 1), self.changed(key, (thing, 0)), type(thing) is int and (
                    {(1, 1): thing > 2, (0, 0): thing == 1}.get(key, False)))
                self.as_words(TWO_ASKS, (1, 1), self.changed(key, (4, thing)))
            if boxed.is_key(thing):
                self.as_words(TWO_ASKS, (1, 1), self.changed(thing, (9, 0)))

    def test_of_no_house_and_of_no_store_nothing_holds(self):
        for thing in ANYTHING:
            self.told(thing, (1, 1), TWO_BOOK, False)
            self.told(TWO_ASKS, thing, TWO_BOOK, False)

    def test_a_thousand_things(self):
        # None of what is led to is a store of the book itself.
        house = (((-2, -2), (-1, -3), (-3, -1), (-9, 1), (1, -9)),) * 8
        thing = {(2 * n, 2 * n + 1): (n + 1, n % 8) for n in range(160)}
        begun = time.monotonic()
        self.told(house, (5, 7), thing, by_words.is_book(house, (5, 7), thing))
        thing = {(3 * n + 1,): (n + 1, 0) for n in range(200)}
        self.told((((-3,),),), (598,), thing, True)
        self.told((((-2,),),), (598,), thing, False)
        self.told((((-4,),),), (598,), thing, True)
        self.assertLess(time.monotonic() - begun, SECONDS)


class Point11Played(unittest.TestCase):
    def ending(self, house, store, told, answer):
        """What is told, once it is seen that it is as the words say and of the kinds told."""
        seen = []

        def listening(i, there):
            seen.append((i, there))
            return answer(i, there)

        result = played(house, store, told, listening)
        by_the_words = []

        def listening_there(i, there):
            by_the_words.append((i, there))
            return answer(i, there)

        self.assertEqual(result, by_words.played(house, store, told, listening_there), (house, store, told))
        self.assertEqual(seen, by_the_words)
        self.assertIs(type(result), tuple)
        self.assertEqual([type(part) for part in result], [tuple, tuple, str])
        self.assertEqual(len(seen), len(result[0]) - (result[2] == "stuck"))
        return result

    def test_told_books_against_players(self):
        for house, store, lived in worn_ones(113, 12):
            told = book(house, store)
            for player in (first_way, way_that_leaves_most, longest_way):
                asks, ways, end = self.ending(house, store, told, player(house))
                self.assertEqual(end, "stuck")
                self.assertEqual(len(asks), len(ways) + 1)
                self.assertLessEqual(len(ways), lived)
            # Who answers by the longest life meets just as many asks as the store lasts.
            self.assertEqual(len(ways), lived)

    def test_by_hand(self):
        self.assertEqual(played(WEARS_OUT, (2,), book(WEARS_OUT, (2,)), lambda i, store: 0), ((0, 0, 0), (0, 0), "stuck"))
        told = ((0, 0, 0), (1, 0), "stuck")
        self.assertEqual(played(TWO_ASKS, (1, 1), TWO_BOOK, lambda i, store: store[1]), told)

    def test_the_def_is_asked_with_the_ask_and_the_store_that_is_there(self):
        seen = []
        played(TWO_ASKS, (1, 1), TWO_BOOK, lambda i, store: seen.append((i, store)) or 1 - len(seen) % 2)
        self.assertEqual(seen, [(0, (1, 1)), (0, (0, 1))])

    def test_stuck_at_once_without_asking(self):
        def never(i, store):
            raise AssertionError("asked")

        self.assertEqual(played(WEARS_OUT, (0,), {(0,): (1, 0)}, never), ((0,), (), "stuck"))
        self.assertEqual(played(ONE_ASK_WEARS, (0,), {(0,): (7, 1)}, never), ((1,), (), "stuck"))

    def test_an_answer_that_is_no_way_that_leads(self):
        for thing in ANYTHING + (2, -1, -2, True, False, None, "0", [0], (0,), 10 ** 59):
            if type(thing) is int and thing in (0, 1):
                continue
            told = played(TWO_ASKS, (1, 1), TWO_BOOK, lambda i, store: thing)
            self.assertEqual(told, ((0,), (), "way"), thing)
            told = played(TWO_ASKS, (1, 1), TWO_BOOK, lambda i, store: 0 if store == (1, 1) else thing)
            self.assertEqual(told, ((0, 0), (0,), "way"), thing)

    def test_a_way_that_leads_to_none(self):
        self.assertEqual(played(TWO_ASKS, (1, 0), TWO_BOOK, lambda i, store: 1), ((0,), (), "way"))
        self.assertEqual(played(TWO_ASKS, (0, 1), TWO_BOOK, lambda i, store: 0), ((0,), (), "way"))
        self.assertEqual(played(TWO_ASKS, (1, 1), TWO_BOOK, lambda i, store: 0), ((0, 0), (0,), "way"))

    def test_by_the_store_of_least_rank(self):
        house = (((-1,),), ((-2,),))
        told = {(0,): (1, 0), (1,): (2, 0), (2,): (5, 0), (3,): (3, 1), (5,): (6, 1)}
        self.assertIs(is_book(house, (2,), told), True)
        # (3,) has a lesser rank than (2,), though it covers more.
        self.assertEqual(self.ending(house, (2,), told, lambda i, store: 0), ((1, 0), (0,), "stuck"))
        self.assertEqual(self.ending(house, (4,), told, lambda i, store: 0), ((1, 1, 0), (0, 0), "stuck"))

    def test_of_like_ranks_by_the_one_sorted_ahead(self):
        house = (((-1, 0), (0, -1)), ((-1, -1),))
        told = {(0, 0): (1, 0), (1, 0): (2, 1), (0, 1): (2, 1), (2, 0): (2, 1), (0, 2): (2, 1)}
        told.update({(2, 1): (3, 1), (3, 1): (4, 1), (1, 3): (4, 1)})
        self.assertIs(is_book(house, (1, 1), told), True)
        for store in ((1, 1), (0, 0), (1, 0), (0, 1), (0, 3), (3, 0)):
            for answer in (first_way(house), way_that_leaves_most(house)):
                self.ending(house, store, told, answer)
        # Both (0, 2) and (2, 0) have the rank 2 and cover what is there.
        told = {(0, 2): (2, 0), (2, 0): (2, 1)}
        house = (((0, -5),), ((-3, 0),))
        self.assertEqual(played(house, (0, 0), told, lambda i, store: 0), ((0,), (), "stuck"))
        told = {(0, 2): (2, 1), (2, 0): (2, 0)}
        self.assertEqual(played(house, (0, 0), told, lambda i, store: 0), ((1,), (), "stuck"))
        told = {(2, 0): (2, 0), (0, 2): (3, 1)}
        self.assertEqual(played(house, (0, 0), told, lambda i, store: 0), ((0,), (), "stuck"))

    def test_by_other_books_that_hold(self):
        chance, many = random.Random(114), 0
        for house, store, _ in worn_ones(114, 8):
            told = book(house, store)
            for _ in range(10):
                thing = {}
                for there, (rank, i) in told.items():
                    thing[there] = (rank * 2 + chance.randint(0, 1), i)
                    more = tuple(n + chance.randint(0, 1) for n in there)
                    thing.setdefault(more, (rank * 2 + 1, i))
                if is_book(house, store, thing):
                    many += 1
                    self.ending(house, store, thing, lambda i, there: chance_way(house, i, there))
        self.assertGreater(many, 20)

    def test_no_book(self):
        for thing in ANYTHING + ({}, list(TWO_BOOK.items())):
            with self.assertRaises(NoBook):
                played(TWO_ASKS, (1, 1), thing, lambda i, store: 0)
        for thing in boxed.parts_changed(TWO_BOOK, ODD):
            if not by_words.is_book(TWO_ASKS, (1, 1), thing):
                with self.assertRaises(NoBook):
                    played(TWO_ASKS, (1, 1), thing, lambda i, store: 0)

    def test_no_book_that_holds_for_the_store(self):
        for store in ((2, 0), (0, 2), (1, 2)):
            with self.assertRaises(NoBook):
                played(TWO_ASKS, store, TWO_BOOK, lambda i, there: 0)

    def test_the_book_may_be_changed_behind_the_first_answer(self):
        told = dict(TWO_BOOK)
        result = played(TWO_ASKS, (1, 1), told, lambda i, store: told.clear() or store[1])
        self.assertEqual(result, ((0, 0, 0), (1, 0), "stuck"))

    def test_great_times_within_seconds(self):
        for house, store, t, lasting in heavy.FATES:
            if not lasting:
                told = book(house, store)
                begun = time.monotonic()
                self.assertIs(is_book(house, store, told), True)
                asks, ways, end = played(house, store, told, longest_in(told, house))
                self.assertEqual((len(ways), end), (t - 1, "stuck"))
                self.assertLess(time.monotonic() - begun, SECONDS)

    def test_a_book_of_many_stores_within_seconds(self):
        brought = ((0, 0, 0), (1, 0, 0), (0, 1, 0), (0, 0, 1), (7, 50, 3))
        house = (tuple((-1,) + numbers for numbers in brought),)
        told = book(house, (15, 0, 0, 0))
        self.assertGreater(len(told), 10000)
        begun = time.monotonic()
        self.assertIs(is_book(house, (15, 0, 0, 0), told), True)
        self.assertEqual(played(house, (15, 0, 0, 0), told, lambda i, store: 4), ((0,) * 16, (4,) * 15, "stuck"))
        self.assertLess(time.monotonic() - begun, SECONDS)


def chance_way(house, i, store):
    """A way by no order, but the same each time."""
    led = leads(house, i, store)
    return led[(i + sum(store)) % len(led)][0]


def longest_in(told, house):
    """Answers by the longest life, by the ranks of the book."""
    return lambda i, store: max(leads(house, i, store), key=lambda pair: told[pair[1]][0])[0]


if __name__ == "__main__":
    unittest.main()
