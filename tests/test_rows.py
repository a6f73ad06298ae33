"""[9] how many comings do, and the rows of a rank by their numbers."""

import unittest
from itertools import product
from random import Random

import slow
from hallback.errors import NoComings, NoNumber
from hallback.rows import how_many, how_many_of, number_of, row_at
from hallback.stairs import stairs

HALL = (((2, 2), (1, 1)), ((0, 1),))
BOOK = ((0,), (None,), (1,), (0,))
FEW = (((1, 1), (1, 1)), ((0,), (0,), (1,)))
CANT_BE = ((0, 0, 1),)
FIVE = (((5, 1),), ((0,),))
# Of the second rank, that no desk takes, all comings do.
UNSEEN = (((1, 1), (5, 10)), ((0,),))


def many_where_each_tick_takes_one(most, ticks):
    """How many rows there are of a rank of which one desk took one at each tick, by how many are left."""
    left = {0: 1}
    for _ in range(ticks):
        then = {}
        for many, ways in left.items():
            for come in range(most + 1):
                if many + come > 0:
                    then[many + come - 1] = then.get(many + come - 1, 0) + ways
        left = then
    return sum(left.values())


class HowMany(unittest.TestCase):
    def test_books(self):
        self.assertEqual(how_many_of(HALL, BOOK, (), 0), 2)
        # Of four ticks all rows in which one has come by tick 2.
        self.assertEqual(how_many_of(HALL, BOOK, (), 1), 14)
        self.assertEqual(how_many(HALL, BOOK, ()), 28)

    def test_looks(self):
        self.assertEqual(how_many(HALL, BOOK, ((3, 1, 0, 0),)), 6)
        self.assertEqual(how_many_of(HALL, BOOK, ((3, 1, 0, 0),), 0), 2)
        self.assertEqual(how_many_of(HALL, BOOK, ((3, 1, 0, 0),), 1), 3)
        self.assertEqual(how_many(HALL, BOOK, ((3, 0, 1, 9), (3, 1, 0, 0))), 3)

    def test_none_do(self):
        self.assertEqual(how_many(FEW, CANT_BE, ()), 0)
        self.assertEqual(how_many_of(FEW, CANT_BE, (), 0), 0)
        self.assertEqual(how_many_of(FEW, CANT_BE, (), 1), 0)
        self.assertEqual(how_many(HALL, BOOK, ((0, 0, 1, 1),)), 0)

    def test_nobody_came(self):
        self.assertEqual(how_many(FIVE, ((None,),) * 40, ()), 1)
        self.assertEqual(how_many_of(FIVE, ((None,),) * 40, (), 0), 1)

    def test_a_rank_that_no_desk_takes(self):
        for ticks in (1, 2, 40):
            self.assertEqual(how_many(UNSEEN, ((None,),) * ticks, ()), 6 ** ticks)
            self.assertEqual(how_many_of(UNSEEN, ((None,),) * ticks, (), 0), 1)
            self.assertEqual(how_many_of(UNSEEN, ((None,),) * ticks, (), 1), 6 ** ticks)

    def test_forty_ticks(self):
        for most in range(1, 6):
            many = many_where_each_tick_takes_one(most, 40)
            self.assertEqual(how_many((((most, 1),), ((0,),)), ((0,),) * 40, ()), many)

    def test_four_ranks_are_counted_one_times_the_other(self):
        hall = (((5, 1), (5, 1), (3, 1), (4, 7)), ((0,), (1,), (2,)))
        ways = [many_where_each_tick_takes_one(most, 40) for most in (5, 5, 3)] + [5 ** 40]
        for rank in range(4):
            self.assertEqual(how_many_of(hall, ((0, 1, 2),) * 40, (), rank), ways[rank])
        self.assertEqual(how_many(hall, ((0, 1, 2),) * 40, ()), ways[0] * ways[1] * ways[2] * ways[3])

    def test_looks_part_the_comings(self):
        book = ((0,),) * 40
        for tick in (0, 17, 38, 39):
            many = [how_many(FIVE, book, ((tick, 0, left, left),)) for left in range(100)]
            self.assertEqual(sum(many), how_many(FIVE, book, ((tick, 0, 0, 99),)))
        self.assertEqual(how_many(FIVE, book, ((17, 0, 0, 99),)), how_many(FIVE, book, ()))

    def test_small_halls(self):
        for hall, book, looks in slow.cases():
            self.assertEqual(how_many(hall, book, looks), len(slow.stories(hall, book, looks)))
            for rank in range(len(hall[0])):
                self.assertEqual(how_many_of(hall, book, looks, rank), len(slow.rows_had(hall, book, looks, rank)))

    def test_kinds(self):
        for number in (how_many(HALL, BOOK, ()), how_many_of(HALL, BOOK, (), 0), how_many(FEW, CANT_BE, ())):
            self.assertIs(type(number), int)


class Numbers(unittest.TestCase):
    def test_rows_are_numbered_in_order(self):
        self.assertEqual(row_at(HALL, BOOK, (), 0, 0), (1, 0, 0, 1))
        self.assertEqual(row_at(HALL, BOOK, (), 0, 1), (1, 0, 0, 2))
        self.assertEqual(row_at(HALL, BOOK, (), 1, 0), (0, 0, 1, 0))
        self.assertEqual(row_at(HALL, BOOK, (), 1, 13), (1, 1, 1, 1))
        self.assertEqual(number_of(HALL, BOOK, (), 0, (1, 0, 0, 2)), 1)
        self.assertEqual(number_of(HALL, BOOK, (), 1, (0, 0, 1, 1)), 1)

    def test_small_halls(self):
        for hall, book, looks in slow.cases():
            for rank in range(len(hall[0])):
                for number, row in enumerate(slow.rows_had(hall, book, looks, rank)):
                    self.assertEqual(row_at(hall, book, looks, rank, number), row)
                    self.assertEqual(number_of(hall, book, looks, rank, row), number)

    def test_numbers_of_no_row(self):
        for hall, book, looks in slow.cases(3):
            for rank in range(len(hall[0])):
                many = len(slow.rows_had(hall, book, looks, rank))
                for number in (-1, many, many + 1, -many, 10 ** 40 - 1, 1 - 10 ** 40):
                    if not 0 <= number < many:
                        with self.assertRaises(NoNumber):
                            row_at(hall, book, looks, rank, number)

    def test_rows_that_are_not_had(self):
        for hall, book, looks in slow.cases(3):
            for rank, (most, _) in enumerate(hall[0]):
                had = slow.rows_had(hall, book, looks, rank)
                for row in product(range(-1, most + 2), repeat=len(book)):
                    if row not in had:
                        with self.assertRaises(NoComings):
                            number_of(hall, book, looks, rank, row)

    def test_none_do(self):
        for rank in (0, 1):
            with self.assertRaises(NoNumber):
                row_at(FEW, CANT_BE, (), rank, 0)
            for row in ((0,), (1,)):
                with self.assertRaises(NoComings):
                    number_of(FEW, CANT_BE, (), rank, row)

    def test_first_and_last_of_forty_ticks(self):
        book = ((None,),) * 40
        last = 6 ** 40 - 1
        self.assertEqual(row_at(UNSEEN, book, (), 1, 0), (0,) * 40)
        self.assertEqual(row_at(UNSEEN, book, (), 1, 1), (0,) * 39 + (1,))
        self.assertEqual(row_at(UNSEEN, book, (), 1, 6), (0,) * 38 + (1, 0))
        self.assertEqual(row_at(UNSEEN, book, (), 1, last), (5,) * 40)
        self.assertEqual(number_of(UNSEEN, book, (), 1, (0,) * 40), 0)
        self.assertEqual(number_of(UNSEEN, book, (), 1, (5,) * 40), last)
        for number in (-1, last + 1):
            with self.assertRaises(NoNumber):
                row_at(UNSEEN, book, (), 1, number)
        self.assertEqual(row_at(UNSEEN, book, (), 0, 0), (0,) * 40)
        with self.assertRaises(NoNumber):
            row_at(UNSEEN, book, (), 0, 1)

    def test_there_and_back_of_forty_ticks(self):
        book = ((0,),) * 40
        looks = ((9, 0, 3, 7), (30, 0, 0, 12))
        many = how_many_of(FIVE, book, looks, 0)
        steps = stairs(FIVE, book, looks, 0)
        numbers = [0, 1, many - 2, many - 1] + [Random(3).randrange(many) for _ in range(20)]
        rows = [row_at(FIVE, book, looks, 0, number) for number in sorted(numbers)]
        self.assertEqual([number_of(FIVE, book, looks, 0, row) for row in rows], sorted(numbers))
        self.assertEqual(rows, sorted(rows))
        for row in rows:
            for tick, (low, high) in enumerate(steps):
                self.assertTrue(low <= sum(row[:tick + 1]) <= high)
                self.assertTrue(0 <= row[tick] <= 5)

    def test_any_number(self):
        for thing in slow.ANYTHING:
            if type(thing) is int and 0 <= thing < 14:
                row_at(HALL, BOOK, (), 1, thing)
            else:
                with self.assertRaises(NoNumber):
                    row_at(HALL, BOOK, (), 1, thing)

    def test_any_row(self):
        for thing in slow.with_one_changed((1, 0, 0, 1)):
            plain = slow.is_tuple(thing, 4, 4) and all(slow.is_number(come, 0, 2) for come in thing)
            if plain and thing in ((1, 0, 0, 1), (1, 0, 0, 2)):
                number_of(HALL, BOOK, (), 0, thing)
            else:
                with self.assertRaises(NoComings):
                    number_of(HALL, BOOK, (), 0, thing)

    def test_truths_are_no_numbers(self):
        for number in (True, False):
            with self.assertRaises(NoNumber):
                row_at(HALL, BOOK, (), 0, number)
        for row in ((True, 0, 0, 1), (1, False, 0, 1), [1, 0, 0, 1]):
            with self.assertRaises(NoComings):
                number_of(HALL, BOOK, (), 0, row)

    def test_kinds(self):
        row = row_at(HALL, BOOK, (), 0, 1)
        self.assertIs(type(row), tuple)
        self.assertEqual([type(come) for come in row], [int] * 4)
        self.assertIs(type(number_of(HALL, BOOK, (), 0, row)), int)


if __name__ == "__main__":
    unittest.main()
