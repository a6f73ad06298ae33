"""[10] when each one came and was taken, [11] how long they waited, and because of whom."""

import unittest

import slow
from hallback.comers import because, came, taken, waiting, waits

HALL = (((2, 2), (1, 1)), ((0, 1),))
BOOK = ((0,), (None,), (1,), (0,))
FEW = (((1, 1), (1, 1)), ((0,), (0,), (1,)))
CANT_BE = ((0, 0, 1),)
FIVE = (((5, 1),), ((0,),))
# Of the second rank, that no desk takes, all comings do.
UNSEEN = (((1, 1), (5, 10)), ((0,),))


class Came(unittest.TestCase):
    def test_books(self):
        self.assertEqual(came(HALL, BOOK, (), 0, 1), (0, 0))
        self.assertEqual(came(HALL, BOOK, (), 0, 2), (3, 3))
        self.assertEqual(came(HALL, BOOK, (), 1, 1), (0, 2))
        self.assertEqual(came(HALL, BOOK, ((1, 1, 0, 0),), 1, 1), (2, 2))

    def test_who_need_not_come(self):
        self.assertEqual(came(HALL, BOOK, (), 0, 3), (3, None))
        self.assertEqual(came(HALL, BOOK, (), 1, 2), (1, None))
        self.assertEqual(came(HALL, BOOK, (), 1, 4), (3, None))

    def test_who_can_not_have_come(self):
        self.assertEqual(came(HALL, BOOK, (), 0, 4), (None, None))
        self.assertEqual(came(HALL, BOOK, (), 1, 5), (None, None))

    def test_none_do(self):
        for comer in (1, 2, 10 ** 30):
            self.assertIs(came(FEW, CANT_BE, (), 0, comer), None)
            self.assertIs(came(FEW, CANT_BE, (), 1, comer), None)
        self.assertIs(came(HALL, BOOK, ((0, 0, 1, 1),), 1, 1), None)

    def test_any_number(self):
        for comer in (201, 10 ** 6, 10 ** 40 - 1):
            self.assertEqual(came(HALL, BOOK, (), 0, comer), (None, None))
            self.assertEqual(came(UNSEEN, ((None,),) * 40, (), 1, comer), (None, None))

    def test_forty_ticks(self):
        for comer in range(1, 201):
            earliest = (comer - 1) // 5
            self.assertEqual(came(UNSEEN, ((None,),) * 40, (), 1, comer), (earliest, None))
            latest = comer - 1 if comer <= 40 else None
            self.assertEqual(came(FIVE, ((0,),) * 40, (), 0, comer), (earliest, latest))

    def test_small_halls(self):
        for hall, book, looks in slow.cases():
            for rank, (most, _) in enumerate(hall[0]):
                for comer in range(1, most * len(book) + 3):
                    told = slow.came(hall, book, looks, rank, comer)
                    self.assertEqual(came(hall, book, looks, rank, comer), told)

    def test_kinds(self):
        self.assertIs(type(came(HALL, BOOK, (), 0, 1)), tuple)
        self.assertIs(type(came(HALL, BOOK, (), 0, 4)), tuple)


class Taken(unittest.TestCase):
    def test_books(self):
        self.assertEqual([taken(HALL, BOOK, 0, comer) for comer in (1, 2, 3)], [0, 3, None])
        self.assertEqual([taken(HALL, BOOK, 1, comer) for comer in (1, 2)], [2, None])

    def test_two_desks_at_one_tick(self):
        hall = (((3, 1), (2, 1)), ((0,), (0, 1), (0,)))
        book = ((0, 0, 0), (None, 1, None), (0, 0, None))
        self.assertEqual([taken(hall, book, 0, comer) for comer in range(1, 7)], [0, 0, 0, 2, 2, None])
        self.assertEqual([taken(hall, book, 1, comer) for comer in range(1, 3)], [1, None])

    def test_any_number(self):
        for comer in (41, 121, 10 ** 40 - 1):
            self.assertIs(taken(FIVE, ((0,),) * 40, 0, comer), None)
        self.assertEqual([taken(FIVE, ((0,),) * 40, 0, comer) for comer in range(1, 41)], list(range(40)))

    def test_nobody_was_taken(self):
        self.assertIs(taken(FIVE, ((None,),) * 40, 0, 1), None)
        self.assertIs(taken(UNSEEN, ((0,),) * 40, 1, 1), None)

    def test_a_book_that_can_not_be(self):
        self.assertEqual([taken(FEW, CANT_BE, 0, comer) for comer in (1, 2, 3)], [0, 0, None])

    def test_small_halls(self):
        for hall, book, looks in slow.cases():
            for rank in range(len(hall[0])):
                for comer in range(1, 3 * len(book) + 2):
                    self.assertEqual(taken(hall, book, rank, comer), slow.taken(book, rank, comer))
                    for story in slow.stories(hall, book, looks)[:3]:
                        ticks = story.gone[rank][comer - 1:comer] + [None]
                        self.assertEqual(taken(hall, book, rank, comer), ticks[0])


class Waits(unittest.TestCase):
    def test_books(self):
        self.assertEqual(waits(HALL, BOOK, (), 0), (0, 0))
        self.assertEqual(waits(HALL, BOOK, (), 1), (0, 2))
        self.assertEqual(waits(HALL, BOOK, ((0, 1, 0, 0),), 1), (0, 1))
        self.assertEqual(waits(HALL, BOOK, ((0, 1, 1, 1),), 1), (2, 2))

    def test_who_was_not_taken_does_not_count(self):
        self.assertEqual(waits(FIVE, ((0,),), (), 0), (0, 0))
        self.assertEqual(waits(FIVE, ((0,), (0,)), (), 0), (0, 1))
        self.assertEqual(waits(FIVE, ((0,), (0,)), ((0, 0, 4, 4),), 0), (1, 1))
        self.assertEqual(waits(FIVE, ((0,), (0,), (0,)), (), 0), (0, 3))

    def test_nobody_was_taken(self):
        self.assertEqual(waits(FIVE, ((None,),) * 40, (), 0), (0, 0))
        self.assertEqual(waits(UNSEEN, ((None,),) * 40, (), 1), (0, 0))

    def test_none_do(self):
        self.assertIs(waits(FEW, CANT_BE, (), 0), None)
        self.assertIs(waits(FEW, CANT_BE, (), 1), None)

    def test_forty_ticks(self):
        # At most 5 come at each tick until 40 have come, comer k at tick (k - 1) // 5, taken at k - 1.
        most = sum(comer - 1 - (comer - 1) // 5 for comer in range(1, 41))
        self.assertEqual(waits(FIVE, ((0,),) * 40, (), 0), (0, most))

    def test_small_halls(self):
        for hall, book, looks in slow.cases():
            for rank in range(len(hall[0])):
                self.assertEqual(waits(hall, book, looks, rank), slow.waits(hall, book, looks, rank))


class Waiting(unittest.TestCase):
    def test_books(self):
        self.assertEqual([waiting(HALL, BOOK, (), 0, tick) for tick in range(4)], [(0, 0)] * 3 + [(0, 1)])
        self.assertEqual(
            [waiting(HALL, BOOK, (), 1, tick) for tick in range(4)], [(0, 1), (0, 2), (0, 2), (0, 3)]
        )
        self.assertEqual(waiting(HALL, BOOK, ((2, 1, 2, 4),), 1, 0), (1, 1))
        self.assertEqual(waiting(HALL, BOOK, ((2, 1, 2, 4),), 1, 3), (2, 3))

    def test_none_do(self):
        self.assertIs(waiting(FEW, CANT_BE, (), 0, 0), None)
        self.assertIs(waiting(FEW, CANT_BE, (), 1, 0), None)

    def test_forty_ticks(self):
        for tick in range(40):
            self.assertEqual(waiting(FIVE, ((0,),) * 40, (), 0, tick), (0, 4 * tick + 4))
            self.assertEqual(waiting(UNSEEN, ((0,),) * 40, (), 1, tick), (0, 5 * tick + 5))
            self.assertEqual(waiting(FIVE, ((None,),) * 40, (), 0, tick), (0, 0))

    def test_small_halls(self):
        for hall, book, looks in slow.cases():
            for rank in range(len(hall[0])):
                for tick in range(len(book)):
                    told = slow.waiting(hall, book, looks, rank, tick)
                    self.assertEqual(waiting(hall, book, looks, rank, tick), told)


class Because(unittest.TestCase):
    def test_books(self):
        self.assertEqual(because(HALL, BOOK, (), 1, 0), (0, 4))
        self.assertEqual(because(HALL, BOOK, (), 0, 1), (0, 0))
        self.assertEqual(because(HALL, BOOK, (), 0, 0), (0, 1))
        self.assertEqual(because(HALL, BOOK, (), 1, 1), (0, 2))
        self.assertEqual(because(HALL, BOOK, ((0, 1, 1, 1),), 1, 0), (1, 4))

    def test_twice_where_two_desks_took_such_at_one_tick(self):
        hall = (((5, 1), (5, 1)), ((0,), (0, 1), (0,)))
        self.assertEqual(because(hall, ((0, 0, 0),), (), 1, 0), (0, 15))
        self.assertEqual(because(hall, ((0, 0, 0),), (), 0, 0), (0, 6))
        self.assertEqual(because(hall, ((0, 0, 0),), ((0, 1, 3, 4),), 1, 0), (9, 12))
        self.assertEqual(because(hall, ((0, 1, None),), (), 1, 0), (0, 4))
        self.assertEqual(because(hall, ((0, 1, None),), (), 0, 1), (0, 0))

    def test_nobody_was_taken(self):
        self.assertEqual(because(UNSEEN, ((None,),) * 3, (), 1, 0), (0, 0))
        self.assertEqual(because(UNSEEN, ((0,),) * 3, (), 0, 1), (0, 0))
        self.assertEqual(because(UNSEEN, ((0,),) * 3, (), 1, 1), (0, 0))

    def test_none_do(self):
        for rank in (0, 1):
            for other in (0, 1):
                self.assertIs(because(FEW, CANT_BE, (), rank, other), None)

    def test_forty_ticks(self):
        most = sum(5 * tick + 5 for tick in range(40))
        self.assertEqual(because(UNSEEN, ((0,),) * 40, (), 1, 0), (0, most))

    def test_small_halls(self):
        for hall, book, looks in slow.cases():
            for rank in range(len(hall[0])):
                for other in range(len(hall[0])):
                    told = slow.because(hall, book, looks, rank, other)
                    self.assertEqual(because(hall, book, looks, rank, other), told)


if __name__ == "__main__":
    unittest.main()
