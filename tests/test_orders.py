"""[16] the orders of ranks that a book can have, and which ranks must be ahead of which."""

import unittest
from itertools import permutations
from random import Random

import slow
from hallback.errors import NoBook, NoHall
from hallback.orders import must_be_ahead, orders
from hallback.rows import how_many
from hallback.runs import run

HALL = (((2, 2), (1, 1)), ((0, 1),))
BOOK = ((0,), (None,), (1,), (0,))
FEW = (((1, 1), (1, 1)), ((0,), (0,), (1,)))
THREE = (((1, 1), (1, 1), (1, 1)), ((0, 1, 2),))


def all_orders(hall):
    return list(permutations(range(len(hall[0]))))


def told_by(hall, pairs):
    """The orders in which the one of each pair stands ahead of the other."""
    return [
        order for order in all_orders(hall)
        if all(order.index(one) < order.index(other) for one, other in pairs)
    ]


def renamed(hall, book, order):
    """The hall and book with its ranks called by their places in the order."""
    place = {rank: at for at, rank in enumerate(order)}
    ranks = tuple(hall[0][rank] for rank in order)
    desks = tuple(tuple(sorted(place[rank] for rank in desk)) for desk in hall[1])
    return (ranks, desks), tuple(tuple(place.get(one) for one in row) for row in book)


class Orders(unittest.TestCase):
    def test_books(self):
        # Rank 1 going first one of it came, at tick 1 or 2; of rank 0 one or two at tick 0, two in all at least.
        self.assertEqual(orders(HALL, BOOK), [((0, 1), 28), ((1, 0), 2 * (2 * 27 - 1))])
        self.assertEqual(must_be_ahead(HALL, BOOK), [])

    def test_one_rank(self):
        self.assertEqual(orders((((5, 1),), ((0,),)), ((0,),)), [((0,), 5)])
        self.assertEqual(orders((((1, 1),), ((0,), (0,))), ((0, 0),)), [])

    def test_an_order_that_can_not_be(self):
        hall = (((2, 1), (1, 1)), ((0, 1), (0, 1)))
        # Two of rank 1, of which one a tick comes, are taken at tick 1: one waited at tick 0, where rank 0 was taken.
        self.assertEqual(orders(hall, ((0, 0), (1, 1))), [((0, 1), 1)])
        self.assertEqual(must_be_ahead(hall, ((0, 0), (1, 1))), [(0, 1)])
        # Three of it are taken by tick 1.
        self.assertEqual(orders(hall, ((1, 0), (1, 1))), [])
        self.assertIs(must_be_ahead(hall, ((1, 0), (1, 1))), None)

    def test_by_the_other_order_only(self):
        # Two of rank 0, of which one a tick comes, are taken at tick 1: one waited at tick 0, where rank 1 was taken.
        hall = (((1, 1), (2, 1)), ((0, 1), (0, 1)))
        self.assertEqual(how_many(hall, ((1, 1), (0, 0)), ()), 0)
        self.assertEqual(orders(hall, ((1, 1), (0, 0))), [((1, 0), 1)])
        self.assertEqual(must_be_ahead(hall, ((1, 1), (0, 0))), [(1, 0)])

    def test_orders_and_pairs_in_order(self):
        self.assertEqual(orders(THREE, ((None,),)), [(order, 1) for order in all_orders(THREE)])
        # Of whom was taken one had come; of who goes ahead of them nobody, of who goes behind one or none.
        self.assertEqual(orders(THREE, ((1,),)), [
            ((0, 1, 2), 2), ((0, 2, 1), 1), ((1, 0, 2), 4), ((1, 2, 0), 4), ((2, 0, 1), 1), ((2, 1, 0), 2),
        ])
        self.assertEqual(must_be_ahead(THREE, ((1,),)), [])

    def test_pairs_of_several_ranks(self):
        # Of rank 0 two are taken at tick 1, of whom one waited at tick 0; rank 2 was never taken, and bars nobody.
        hall = (((1, 1), (4, 1), (1, 1)), ((0, 1, 2),) * 3)
        book = ((1, 1, 1), (1, 0, 0))
        self.assertEqual(must_be_ahead(hall, book), slow.must_be_ahead(hall, book))
        self.assertEqual(must_be_ahead(hall, book), [(1, 0)])
        self.assertEqual([order for order, _ in orders(hall, book)], [(1, 0, 2), (1, 2, 0), (2, 1, 0)])

    def test_no_order(self):
        self.assertEqual(orders(FEW, ((0, 0, 1),)), [])
        self.assertIs(must_be_ahead(FEW, ((0, 0, 1),)), None)

    def test_each_must_be_ahead_of_the_other(self):
        # Four of rank 0 are taken by tick 1, of which two a tick come: one waited at tick 0, where rank 1 was taken.
        # Three of rank 1 are taken at tick 2, of which two a tick come: one waited at tick 1, where rank 0 was taken.
        hall = (((2, 1), (2, 1)), ((0, 1),) * 3)
        book = ((1, 1, 0), (0, 0, 0), (1, 1, 1))
        self.assertEqual(orders(hall, book), [])
        self.assertIs(must_be_ahead(hall, book), None)
        self.assertEqual(must_be_ahead(hall, book[:2]), [(1, 0)])
        for book in slow.some(slow.all_books(hall, 2), 400, Random(3)):
            self.assertEqual(orders(hall, book), slow.orders(hall, book))
            self.assertEqual(must_be_ahead(hall, book), slow.must_be_ahead(hall, book))

    def test_small_halls(self):
        for hall, book, looks in slow.cases():
            if not looks:
                self.assertEqual(orders(hall, book), slow.orders(hall, book))
                self.assertEqual(must_be_ahead(hall, book), slow.must_be_ahead(hall, book))

    def test_all_books_of_small_halls(self):
        for hall, ticks in slow.SMALL + slow.ALIKE:
            for book in slow.some(slow.all_books(hall, ticks), 80, Random(10)):
                self.assertEqual(orders(hall, book), slow.orders(hall, book))
                self.assertEqual(must_be_ahead(hall, book), slow.must_be_ahead(hall, book))

    def test_books_of_other_orders(self):
        chance = Random(11)
        for hall, ticks in slow.SMALL + slow.ALIKE:
            for order in all_orders(hall):
                had = slow.books_had(hall, ticks, order)
                for book in slow.some(sorted(had, key=lambda book: [slow.none_first(row) for row in book]), 4, chance):
                    self.assertIn((order, len(had[book])), orders(hall, book))
                    for one, other in must_be_ahead(hall, book):
                        self.assertLess(order.index(one), order.index(other))

    def test_orders_are_told_by_the_pairs(self):
        chance = Random(12)
        for step in range(120):
            hall = slow.some_hall(chance)
            book = run(hall, slow.some_comings(hall, chance.choice((3, 12, 40)), chance))
            book = slow.bent(hall, book, chance) if step % 2 else book
            pairs = must_be_ahead(hall, book)
            told = [order for order, _ in orders(hall, book)]
            if pairs is None:
                self.assertEqual(told, [])
            else:
                self.assertEqual(told, told_by(hall, pairs))
                self.assertTrue(told)

    def test_long_books_by_calling_the_ranks_by_their_places(self):
        chance = Random(13)
        for step in range(40):
            hall = slow.some_hall(chance)
            book = run(hall, slow.some_comings(hall, chance.choice((5, 40)), chance))
            book = slow.bent(hall, book, chance) if step % 2 else book
            told = []
            for order in all_orders(hall):
                many = how_many(*renamed(hall, book, order), ())
                if many:
                    told.append((order, many))
            self.assertEqual(orders(hall, book), told)

    def test_kinds_and_new_lists(self):
        told = orders(THREE, ((1,),))
        self.assertIs(type(told), list)
        for pair in told:
            self.assertIs(type(pair), tuple)
            order, many = pair
            self.assertIs(type(order), tuple)
            self.assertEqual([type(one) for one in (*order, many)], [int] * 4)
        told.clear()
        self.assertEqual(len(orders(THREE, ((1,),))), 6)
        hall = (((2, 1), (1, 1)), ((0, 1), (0, 1)))
        pairs = must_be_ahead(hall, ((0, 0), (1, 1)))
        self.assertIs(type(pairs), list)
        self.assertIs(type(pairs[0]), tuple)
        pairs.clear()
        self.assertEqual(must_be_ahead(hall, ((0, 0), (1, 1))), [(0, 1)])

    def test_refusals(self):
        for ask in (orders, must_be_ahead):
            self.assertRaises(NoHall, ask, None, None)
            self.assertRaises(NoBook, ask, HALL, ((0,), (0,)))


if __name__ == "__main__":
    unittest.main()
