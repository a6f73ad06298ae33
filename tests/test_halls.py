"""[4] halls, [5] books, [6] looks; [2] of anything."""

import copy
import unittest

import slow
from hallback.halls import are_looks, is_book, is_hall

# One desk for two ranks, of which the first stays two ticks; a second desk for the second rank alone.
HALL = (((2, 2), (1, 1)), ((0, 1), (1,)))
BOOK = ((0, 1), (None, 1), (1, None), (0, None))
WIDEST = (((5, 10), (1, 1), (5, 1), (1, 10)), ((0, 1, 2, 3), (0,), (3,)))


class Halls(unittest.TestCase):
    def check(self, thing, answer):
        self.assertIs(is_hall(thing), answer)

    def test_halls(self):
        for thing in (HALL, WIDEST, (((1, 1),), ((0,),)), (((5, 10),), ((0,), (0,), (0,)))):
            self.check(thing, True)

    def test_ranks_are_one_to_four(self):
        for many in range(7):
            self.check((((1, 1),) * many, ((0,),)), 1 <= many <= 4)

    def test_desks_are_one_to_three(self):
        for many in range(6):
            self.check((((1, 1),), ((0,),) * many), 1 <= many <= 3)

    def test_most_is_one_to_five(self):
        for most in range(-1, 9):
            self.check((((most, 1),), ((0,),)), 1 <= most <= 5)

    def test_stay_is_one_to_ten(self):
        for stay in range(-1, 14):
            self.check((((1, stay),), ((0,),)), 1 <= stay <= 10)

    def test_desks_take_ranks_of_the_hall(self):
        for ranks in range(1, 5):
            for rank in range(-1, 6):
                self.check((((1, 1),) * ranks, ((rank,),)), 0 <= rank < ranks)

    def test_a_desks_ranks_rise(self):
        four = ((1, 1),) * 4
        for desk in ((0, 1), (0, 3), (1, 2, 3), (0, 1, 2, 3), (2,)):
            self.check((four, (desk,)), True)
        for desk in ((1, 0), (0, 0), (0, 2, 1), (0, 1, 1), (0, 1, 2, 3, 3), ()):
            self.check((four, (desk,)), False)

    def test_desks_need_not_rise_and_may_be_alike(self):
        self.check((((1, 1), (1, 1)), ((1,), (0, 1), (1,))), True)

    def test_a_rank_may_be_taken_by_no_desk(self):
        self.check((((1, 1), (1, 1)), ((0,),)), True)

    def test_truths_are_no_numbers(self):
        self.check((((True, 1),), ((0,),)), False)
        self.check((((1, True),), ((0,),)), False)
        self.check((((1, 1),), ((False,),)), False)
        self.check((((1, 1), (1, 1)), ((0, True),)), False)

    def test_lists_are_no_tuples(self):
        self.check([((1, 1),), ((0,),)], False)
        self.check(([(1, 1)], ((0,),)), False)
        self.check((([1, 1],), ((0,),)), False)
        self.check((((1, 1),), [(0,)]), False)
        self.check((((1, 1),), ([0],)), False)

    def test_anything(self):
        for hall in (HALL, (((1, 1),), ((0,),)), WIDEST):
            for thing in slow.with_one_changed(hall):
                self.check(thing, slow.is_hall(thing))

    def test_nothing_is_changed(self):
        thing = [[[1, 1], [2, 2]], [[0], [1, 0]]]
        kept = copy.deepcopy(thing)
        is_hall(thing)
        is_hall((thing, thing))
        self.assertEqual(thing, kept)


class Books(unittest.TestCase):
    def check(self, hall, thing, answer):
        self.assertIs(is_book(hall, thing), answer)

    def test_books(self):
        self.check(HALL, BOOK, True)
        self.check(HALL, ((None, None),), True)
        self.check(WIDEST, ((3, 0, None), (None, None, 3)), True)

    def test_what_can_not_be_is_a_book_too(self):
        self.check((((1, 1),), ((0,), (0,), (0,))), ((None, 0, 0),), True)

    def test_rows_are_one_to_forty(self):
        for many in (0, 1, 2, 39, 40, 41, 42, 200):
            self.check((((1, 1),), ((0,),)), ((0,),) * many, 1 <= many <= 40)

    def test_a_row_has_a_place_for_each_desk(self):
        for many in range(6):
            self.check((((1, 1),), ((0,), (0,), (0,))), ((0,) * many,), many == 3)

    def test_a_desk_takes_its_own_alone(self):
        self.check(HALL, ((1, 1),), True)
        self.check(HALL, ((None, 0),), False)
        for rank in range(-1, 5):
            self.check((((1, 1),) * 4, ((0, 2),)), ((rank,),), rank in (0, 2))

    def test_a_desk_takes_nobody_within_a_stay(self):
        for stay in range(1, 11):
            hall = (((1, stay), (1, 1)), ((0, 1),))
            for gap in range(1, 13):
                for one in (0, 1):
                    book = ((0,),) + ((None,),) * (gap - 1) + ((one,),)
                    self.check(hall, book, gap >= stay)

    def test_the_stay_is_that_of_whom_the_desk_took_last(self):
        hall = (((1, 3), (1, 1)), ((0, 1),))
        self.check(hall, ((1,), (0,), (None,), (None,), (1,), (1,), (0,)), True)
        self.check(hall, ((1,), (0,), (None,), (1,)), False)
        self.check(hall, ((0,), (None,), (None,), (0,), (None,), (1,)), False)

    def test_each_desk_is_free_by_itself(self):
        hall = (((1, 3),), ((0,), (0,)))
        self.check(hall, ((0, None), (None, 0), (None, None), (0, None), (None, 0)), True)
        self.check(hall, ((0, None), (None, 0), (None, None), (None, 0)), False)

    def test_truths_are_no_ranks(self):
        self.check(HALL, ((0, True),), False)
        self.check(HALL, ((False, 1),), False)

    def test_lists_are_no_tuples(self):
        self.check(HALL, [(0, 1)], False)
        self.check(HALL, ([0, 1],), False)

    def test_anything(self):
        for thing in slow.with_one_changed(BOOK):
            self.check(HALL, thing, slow.is_book(HALL, thing))
        for thing in slow.with_one_changed(((3, 0, None), (None, None, 3))):
            self.check(WIDEST, thing, slow.is_book(WIDEST, thing))

    def test_all_books_that_can_be_are_books(self):
        for hall, ticks in slow.SMALL:
            for book in slow.books_had(hall, ticks):
                self.check(hall, book, True)

    def test_nothing_is_changed(self):
        thing = [[0, 1], [None, 1]]
        is_book(HALL, thing)
        is_book(HALL, (thing[0], thing[1]))
        self.assertEqual(thing, [[0, 1], [None, 1]])


class Looks(unittest.TestCase):
    def check(self, thing, answer, hall=HALL, book=BOOK):
        self.assertIs(are_looks(hall, book, thing), answer)

    def test_looks(self):
        self.check((), True)
        self.check(((0, 0, 0, 0),), True)
        self.check(((3, 1, 0, 99),), True)
        self.check(((3, 1, 99, 99),), True)
        self.check(((0, 1, 2, 3), (1, 0, 0, 1)), True)

    def test_what_can_not_be_is_looks_too(self):
        self.check(((0, 0, 0, 0), (0, 0, 1, 1), (0, 0, 99, 99)), True)

    def test_looks_are_six_at_most(self):
        for many in range(10):
            self.check(tuple((0, 0, 0, most) for most in range(many)), many <= 6)

    def test_looks_rise(self):
        self.check(((0, 0, 0, 1), (0, 0, 0, 2), (0, 0, 1, 1), (0, 1, 0, 0), (1, 0, 0, 0)), True)
        self.check(((1, 0, 0, 0), (0, 0, 0, 0)), False)
        self.check(((0, 1, 0, 0), (0, 0, 0, 0)), False)
        self.check(((0, 0, 1, 1), (0, 0, 0, 1)), False)
        self.check(((0, 0, 0, 2), (0, 0, 0, 1)), False)
        self.check(((0, 0, 0, 0), (0, 0, 0, 0)), False)
        self.check(((0, 0, 0, 0), (2, 0, 0, 0), (1, 0, 0, 0)), False)

    def test_the_tick_is_one_of_the_book(self):
        for ticks in range(1, 5):
            for tick in range(-1, 6):
                self.check(((tick, 0, 0, 0),), 0 <= tick < ticks, book=BOOK[:ticks])
        self.check(((39, 0, 0, 0),), True, book=((None, None),) * 40)
        self.check(((40, 0, 0, 0),), False, book=((None, None),) * 40)

    def test_the_rank_is_one_of_the_hall(self):
        for rank in range(-1, 6):
            self.check(((0, rank, 0, 0),), rank in (0, 1))
            self.check(((0, rank, 0, 0),), 0 <= rank < 4, WIDEST, ((None, None, None),))

    def test_least_is_from_0_to_most_and_most_no_more_than_99(self):
        for least in (-1, 0, 1, 2, 50, 98, 99, 100):
            for most in (-1, 0, 1, 2, 50, 98, 99, 100):
                self.check(((0, 0, least, most),), 0 <= least <= most <= 99)

    def test_truths_are_no_numbers(self):
        for look in ((True, 0, 0, 1), (0, True, 0, 1), (0, 0, True, 1), (0, 0, 0, True), (0, 0, False, 1)):
            self.check((look,), False)

    def test_lists_are_no_tuples(self):
        self.check([], False)
        self.check([(0, 0, 0, 0)], False)
        self.check(([0, 0, 0, 0],), False)

    def test_anything(self):
        for looks in ((), ((0, 1, 2, 3), (1, 0, 0, 1)), tuple((1, 1, least, 98) for least in range(6))):
            for thing in slow.with_one_changed(looks):
                self.check(thing, slow.are_looks(HALL, BOOK, thing))

    def test_nothing_is_changed(self):
        thing = [[1, 0, 0, 0], [0, 0, 0, 0]]
        are_looks(HALL, BOOK, thing)
        are_looks(HALL, BOOK, (thing[0], thing[1]))
        self.assertEqual(thing, [[1, 0, 0, 0], [0, 0, 0, 0]])


if __name__ == "__main__":
    unittest.main()
