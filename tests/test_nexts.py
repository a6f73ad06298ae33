"""[12] whom the desks can take next, [13] the look that would tell most."""

import unittest
from random import Random

import slow
from hallback.nexts import best_look, nexts
from hallback.rows import how_many

HALL = (((2, 2), (1, 1)), ((0, 1),))
BOOK = ((0,), (None,), (1,), (0,))
FEW = (((1, 1), (1, 1)), ((0,), (0,), (1,)))
CANT_BE = ((0, 0, 1),)
FIVE = (((5, 1),), ((0,),))
# Of the second rank, that no desk takes, all comings do.
UNSEEN = (((1, 1), (5, 10)), ((0,),))


class Nexts(unittest.TestCase):
    def test_a_desk_that_is_not_free(self):
        # The 28 comings, each with any of 6 rows more.
        self.assertEqual(nexts(HALL, BOOK, ()), [((None,), 168)])
        # At tick 2 the desk is free. Of rank 0 one had come at tick 0, and waits for nothing, in one of 18 rows;
        # of rank 1 nobody had come in one of 8.
        self.assertEqual(nexts(HALL, BOOK[:2], ()), [((None,), 1), ((0,), 17 * 8), ((1,), 7)])

    def test_who_waits_is_taken(self):
        # Somebody of either rank waits: the desk takes the first, and can't take the second, nor nobody.
        hall = (((2, 1), (2, 1)), ((0, 1),))
        looks = ((0, 0, 1, 1), (0, 1, 1, 1))
        self.assertEqual(how_many(hall, ((0,),), looks), 1)
        self.assertEqual(nexts(hall, ((0,),), looks), [((0,), 9)])
        hall = (((2, 1), (2, 1)), ((0, 1), (0, 1), (0, 1)))
        for book in slow.some(slow.all_books(hall, 1), 30, Random(21)):
            for least in (0, 1, 2):
                looks = ((0, 0, least, least), (0, 1, least, least))
                self.assertEqual(nexts(hall, book, looks), slow.nexts(hall, book, looks))

    def test_none_goes_ahead_of_numbers(self):
        hall = (((1, 1), (1, 1)), ((0, 1), (1,)))
        self.assertEqual(nexts(hall, ((None, None),), ()), [
            ((None, None), 1), ((0, None), 1), ((0, 1), 1), ((1, None), 1),
        ])
        self.assertEqual([row for row, _ in nexts((((1, 1), (1, 1)), ((0,), (0, 1))), ((None, None),), ())], [
            (None, None), (None, 1), (0, None), (0, 1),
        ])

    def test_looks(self):
        self.assertEqual(nexts(FIVE, ((0,),), ((0, 0, 0, 0),)), [((None,), 1), ((0,), 5)])
        self.assertEqual(nexts(FIVE, ((0,),), ((0, 0, 1, 4),)), [((0,), 24)])
        self.assertEqual(nexts(FIVE, ((0,),), ((0, 0, 0, 99),)), [((None,), 1), ((0,), 29)])

    def test_many_wait(self):
        hall = (((5, 1),), ((0,), (0,), (0,)))
        self.assertEqual(nexts(hall, ((0, 0, 0),), ()), [
            ((None, None, None), 1), ((0, None, None), 2), ((0, 0, None), 3), ((0, 0, 0), 12),
        ])

    def test_whom_the_first_desk_takes_is_gone(self):
        hall = (((1, 1), (1, 1)), ((0, 1), (0, 1)))
        self.assertEqual(nexts(hall, ((None, None),), ()), [
            ((None, None), 1), ((0, None), 1), ((0, 1), 1), ((1, None), 1),
        ])

    def test_none_do(self):
        self.assertEqual(nexts(FEW, CANT_BE, ()), [])
        self.assertEqual(nexts(HALL, BOOK, ((0, 0, 1, 1),)), [])

    def test_a_rank_that_no_desk_takes(self):
        self.assertEqual(nexts(UNSEEN, ((None,),), ()), [((None,), 36), ((0,), 36)])

    def test_the_forty_first_row(self):
        self.assertEqual(nexts(FIVE, ((None,),) * 40, ()), [((None,), 1), ((0,), 5)])
        self.assertEqual(nexts(UNSEEN, ((None,),) * 40, ()), [((None,), 6 ** 41), ((0,), 6 ** 41)])
        hall = (((1, 10),), ((0,),))
        for ticks in range(30, 41):
            book = ((None,),) * 30 + (((0,),) + ((None,),) * 9)[:ticks - 30]
            free = ticks in (30, 40)
            told = [((None,), 1), ((0,), 1)] if ticks == 30 else [((None,), 1), ((0,), 2 ** 10 - 1)]
            self.assertEqual(nexts(hall, book, ()), told if free else [((None,), 2 ** (ticks - 30))])

    def test_each_next_row_makes_a_book_of_so_many_comings(self):
        for hall, book, looks in slow.cases(6):
            for row, many in nexts(hall, book, looks):
                self.assertEqual(how_many(hall, book + (row,), looks), many)

    def test_small_halls(self):
        for hall, book, looks in slow.cases(8):
            self.assertEqual(nexts(hall, book, looks), slow.nexts(hall, book, looks))

    def test_a_long_book(self):
        hall = (((5, 3), (4, 1), (2, 2), (1, 7)), ((0, 1), (1, 2, 3), (2,)))
        comings = tuple((tick % 7 // 6, tick % 3 // 2, tick % 2, tick % 5 // 4) for tick in range(39))
        book = slow.Story(hall, comings).book
        told = nexts(hall, book, ((20, 1, 0, 3),))
        self.assertEqual(sorted(told, key=lambda pair: slow.none_first(pair[0])), told)
        for row, many in told:
            self.assertEqual(how_many(hall, book + (row,), ((20, 1, 0, 3),)), many)
        times = (5 + 1) * (4 + 1) * (2 + 1) * (1 + 1)
        self.assertEqual(sum(many for _, many in told), times * how_many(hall, book, ((20, 1, 0, 3),)))

    def test_the_list_is_a_new_one(self):
        first = nexts(HALL, BOOK, ())
        first.append(None)
        first[0] = None
        self.assertEqual(nexts(HALL, BOOK, ()), [((None,), 168)])
        empty = nexts(FEW, CANT_BE, ())
        empty.append(None)
        self.assertEqual(nexts(FEW, CANT_BE, ()), [])

    def test_kinds(self):
        told = nexts(HALL, BOOK[:2], ())
        self.assertIs(type(told), list)
        for pair in told:
            self.assertEqual([type(pair), type(pair[0]), type(pair[1])], [tuple, tuple, int])


class BestLook(unittest.TestCase):
    def test_books(self):
        # Of rank 1 one had come by tick 2 in 6 rows, two in 6, three in 2; each goes with 2 rows of rank 0.
        self.assertEqual(best_look(HALL, BOOK, ()), (2, 1, 12))

    def test_of_several_the_first(self):
        three = ((1, 1), (1, 1), (1, 1))
        # Of the third rank alone it isn't known who came; a look at either tick leaves two comings at worst.
        self.assertEqual(best_look((three, ((0, 1),)), ((None,), (None,)), ()), (0, 2, 2))
        # Of two ranks that nobody takes each look tells as much as the other one's.
        self.assertEqual(best_look((three, ((0,),)), ((None,),), ()), (0, 1, 2))
        self.assertEqual(best_look((three, ((1,),)), ((None,),), ()), (0, 0, 2))
        # The look at the first rank's last tick and at the second one's tell as much; the earlier tick goes first.
        self.assertEqual(best_look((three, ((0,),)), ((None,), (None,)), ()), (0, 1, 8))

    def test_one_and_none_do(self):
        self.assertIs(best_look(FIVE, ((None,),) * 40, ()), None)
        self.assertIs(best_look(FIVE, ((0,),), ((0, 0, 2, 2),)), None)
        self.assertIs(best_look((((1, 1), (1, 1)), ((0, 1), (0, 1))), ((0, 1), (0, 1)), ()), None)
        self.assertIs(best_look(FEW, CANT_BE, ()), None)
        self.assertIs(best_look(HALL, BOOK, ((0, 0, 1, 1),)), None)

    def test_a_look_that_leaves_one(self):
        self.assertEqual(best_look(FIVE, ((0,),), ()), (0, 0, 1))
        self.assertEqual(best_look(UNSEEN, ((None,),), ()), (0, 1, 1))

    def test_six_looks(self):
        looks = tuple((0, 0, 0, most) for most in range(3, 9))
        self.assertEqual(best_look(FIVE, ((0,), (0,)), looks), slow.best_look(FIVE, ((0,), (0,)), looks))

    def test_answers_of_more_than_99(self):
        book = ((None,),) * 40
        tick, rank, many = best_look(UNSEEN, book, ())
        # By the last tick how many had come is spread widest; the middle one of 201 answers is the worst.
        by = {0: 1}
        for _ in range(40):
            then = {}
            for had_come, ways in by.items():
                for come in range(6):
                    then[had_come + come] = then.get(had_come + come, 0) + ways
            by = then
        self.assertEqual((tick, rank, many), (39, 1, max(by.values())))

    def test_no_look_leaves_fewer(self):
        book = ((0,),) * 12
        tick, rank, many = best_look(FIVE, book, ())
        worst = [
            max(how_many(FIVE, book, ((other, 0, left, left),)) for left in range(60)) for other in range(12)
        ]
        self.assertEqual((tick, rank, many), (worst.index(min(worst)), 0, min(worst)))

    def test_small_halls(self):
        for hall, book, looks in slow.cases():
            self.assertEqual(best_look(hall, book, looks), slow.best_look(hall, book, looks))

    def test_kinds(self):
        told = best_look(HALL, BOOK, ())
        self.assertIs(type(told), tuple)
        self.assertEqual([type(one) for one in told], [int, int, int])


if __name__ == "__main__":
    unittest.main()
