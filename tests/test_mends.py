"""[14] what may have been written falsely, [15] the stays that a book can have."""

import unittest
from random import Random

import slow
from hallback.errors import NoBook, NoHall, NoRank
from hallback.halls import is_book
from hallback.mends import mends, stays
from hallback.runs import run
from hallback.stairs import can_be, first_bar

# One desk for two ranks, of which the first stays two ticks.
HALL = (((2, 2), (1, 1)), ((0, 1),))
BOOK = ((0,), (None,), (1,), (0,))
# Two desks for one rank of which one a tick comes: they can't both take somebody at tick 0.
FEW = (((1, 1),), ((0,), (0,)))
FIVE = (((5, 1),), ((0,),))


class Mends(unittest.TestCase):
    def test_a_book_that_can_be(self):
        # At tick 0 somebody of either rank, or nobody, may have been taken; who stays two ticks can't at tick 2.
        self.assertEqual(mends(HALL, BOOK), [(0, 0, None), (0, 0, 1), (2, 0, None), (3, 0, None), (3, 0, 1)])

    def test_a_book_that_can_not_be(self):
        self.assertEqual(mends(FEW, ((0, 0),)), [(0, 1, None)])
        self.assertEqual(mends(FEW, ((None, 0),)), [(0, 1, None)])
        self.assertEqual(mends(FEW, ((None, 0), (0, None))), [(0, 1, None)])

    def test_none_goes_ahead_of_numbers_and_desks_in_order(self):
        hall = (((1, 1), (1, 1), (1, 1)), ((1, 2), (0, 2)))
        self.assertEqual(mends(hall, ((1, 0),)), [(0, 0, None), (0, 0, 2), (0, 1, None), (0, 1, 2)])

    def test_nothing_mends_two_faults(self):
        book = ((0, 0), (0, None), (None, 0))
        self.assertEqual(first_bar(FEW, book), 0)
        self.assertEqual(mends(FEW, book), [])

    def test_what_is_written_behind_a_bar_does_not_mend_it(self):
        self.assertEqual(mends(FEW, ((0, None), (0, 0), (0, None), (0, None))), [(1, 1, None)])

    def test_not_the_written_one(self):
        for hall, book, _ in slow.cases(8):
            for tick, desk, one in mends(hall, book):
                self.assertNotEqual(book[tick][desk], one)

    def test_a_desk_that_is_not_free_is_left(self):
        hall = (((5, 3),), ((0,),))
        self.assertEqual(mends(hall, ((0,), (None,), (None,), (0,))), [(0, 0, None), (3, 0, None)])
        self.assertEqual(mends(hall, ((None,), (0,), (None,), (None,))), [(1, 0, None)])
        # Who would be taken at tick 1 would be there at tick 3 still.
        self.assertEqual(mends(hall, ((None,), (None,), (None,), (0,))), [(0, 0, 0), (3, 0, None)])

    def test_a_mend_frees_the_desk_sooner(self):
        # With nobody taken at tick 0 the desk is free at tick 1, and nobody can have waited there.
        hall = (((1, 4), (1, 1)), ((0,), (0, 1)))
        for book in (((0, 1), (None, 1)), ((0, None), (None, 0)), ((None, 0), (0, None))):
            self.assertEqual(mends(hall, book), slow.mends(hall, book))

    def test_one_tick_and_forty(self):
        self.assertEqual(mends(FIVE, ((0,),)), [(0, 0, None)])
        self.assertEqual(mends(FIVE, ((None,),)), [(0, 0, 0)])
        self.assertEqual(mends(FIVE, ((None,),) * 40), [(tick, 0, 0) for tick in range(40)])
        # Any tick may have been one at which nobody came, since five can come at the next one.
        self.assertEqual(mends(FIVE, ((0,),) * 40), [(tick, 0, None) for tick in range(40)])
        hall = (((1, 1),), ((0,), (0,)))
        book = ((0, None),) * 39 + ((0, 0),)
        self.assertEqual(mends(hall, book), [(39, 1, None)])

    def test_all_books_of_small_halls(self):
        for hall, ticks in slow.SMALL:
            for book in slow.some(slow.all_books(hall, ticks), 60, Random(6)):
                self.assertEqual(mends(hall, book), slow.mends(hall, book))

    def test_small_halls(self):
        for hall, book, looks in slow.cases():
            if not looks:
                self.assertEqual(mends(hall, book), slow.mends(hall, book))

    def test_long_books_by_trying_each_mend(self):
        chance = Random(7)
        for step in range(40):
            hall = slow.some_hall(chance)
            book = run(hall, slow.some_comings(hall, chance.choice((5, 12, 40)), chance))
            book = slow.bent(hall, book, chance) if step % 2 else book
            told = []
            for tick in range(len(book)):
                for desk, own in enumerate(hall[1]):
                    for one in (None,) + own:
                        other = slow.changed(book, tick, desk, one)
                        if other != book and is_book(hall, other) and can_be(hall, other, ()):
                            told.append((tick, desk, one))
            self.assertEqual(mends(hall, book), told)

    def test_kinds_and_a_new_list(self):
        told = mends(HALL, BOOK)
        self.assertIs(type(told), list)
        for mend in told:
            self.assertIs(type(mend), tuple)
            self.assertEqual([type(one) for one in mend if one is not None], [int] * (3 - mend.count(None)))
        told.clear()
        self.assertEqual(len(mends(HALL, BOOK)), 5)


class Stays(unittest.TestCase):
    def test_books(self):
        # The desk takes again at tick 2, so that who was taken at tick 0 stays two ticks at most; were it free at
        # tick 1, nobody of the second rank had come by then.
        self.assertEqual(stays(HALL, BOOK, 0), [1, 2])
        self.assertEqual(stays(HALL, BOOK, 1), [1])

    def test_who_stays_on_to_the_end(self):
        hall = (((5, 1),), ((0,),))
        self.assertEqual(stays(hall, ((0,), (None,), (None,)), 0), list(range(1, 11)))
        self.assertEqual(stays(hall, ((0,),) * 2, 0), [1])

    def test_no_longer_than_to_the_next_taking(self):
        hall = (((1, 3),), ((0,),))
        self.assertEqual(stays(hall, ((0,), (None,), (None,), (0,), (None,), (None,), (0,)), 0), [1, 2, 3])
        self.assertEqual(stays(hall, ((0,), (None,), (None,), (0,), (None,), (None,), (None,)), 0), [1, 2, 3])

    def test_no_stay_does_where_another_thing_bars(self):
        # Two of the second rank were taken at tick 0, of which one can have come.
        hall = (((1, 1), (1, 1)), ((0, 1), (1,)))
        book = ((1, 1), (None, None))
        self.assertEqual(stays(hall, book, 0), [])
        self.assertEqual(stays(hall, book, 1), [])

    def test_only_a_longer_stay_does(self):
        # Two must have come by tick 1 but at tick 0 one can; one desk took nobody at tick 1, so that it wasn't free.
        hall = (((2, 1),), ((0,), (0,)))
        book = ((0, None), (None, 0))
        self.assertFalse(can_be(hall, book, ()))
        self.assertEqual(stays(hall, book, 0), list(range(2, 11)))

    def test_a_rank_that_is_never_taken(self):
        hall = (((1, 1), (5, 10)), ((0,),))
        self.assertEqual(stays(hall, ((0,), (None,)), 1), list(range(1, 11)))
        self.assertEqual(stays(FEW, ((0, 0),), 0), [])

    def test_forty_ticks(self):
        for stay in range(1, 11):
            hall = (((5, stay),), ((0,),))
            book = tuple((0,) if tick % stay == 0 else (None,) for tick in range(40))
            self.assertEqual(stays(hall, book, 0), list(range(1, stay + 1)))

    def test_all_books_of_small_halls(self):
        for hall, ticks in slow.SMALL:
            for book in slow.some(slow.all_books(hall, ticks), 25, Random(8)):
                for rank in range(len(hall[0])):
                    self.assertEqual(stays(hall, book, rank), slow.stays(hall, book, rank))

    def test_small_halls(self):
        for hall, book, looks in slow.cases(6):
            if not looks:
                for rank in range(len(hall[0])):
                    self.assertEqual(stays(hall, book, rank), slow.stays(hall, book, rank))

    def test_long_books_by_trying_each_stay(self):
        chance = Random(9)
        for step in range(60):
            hall = slow.some_hall(chance)
            book = run(hall, slow.some_comings(hall, 40, chance))
            book = slow.bent(hall, book, chance) if step % 3 == 2 else book
            for rank in range(len(hall[0])):
                others = [(stay, slow.with_stay(hall, rank, stay)) for stay in range(1, 11)]
                told = [stay for stay, other in others if is_book(other, book) and can_be(other, book, ())]
                self.assertEqual(stays(hall, book, rank), told)
                if step % 3 != 2:
                    self.assertIn(hall[0][rank][1], told)

    def test_kinds_and_a_new_list(self):
        told = stays(HALL, BOOK, 0)
        self.assertIs(type(told), list)
        self.assertEqual([type(stay) for stay in told], [int, int])
        told.append(3)
        self.assertEqual(stays(HALL, BOOK, 0), [1, 2])


class Refused(unittest.TestCase):
    def test_refusals(self):
        self.assertRaises(NoHall, mends, None, None)
        self.assertRaises(NoBook, mends, HALL, ((0,), (0,)))
        self.assertRaises(NoHall, stays, [HALL], None, None)
        self.assertRaises(NoBook, stays, HALL, (), None)
        self.assertRaises(NoRank, stays, HALL, BOOK, True)


if __name__ == "__main__":
    unittest.main()
