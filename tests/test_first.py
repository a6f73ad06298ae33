"""[17] when each comer had been taken, had their rank been put first."""

import unittest
from random import Random

import slow
from hallback import errors
from hallback.first import first_taken
from hallback.rows import how_many, how_many_of, row_at
from hallback.runs import run

# One desk for two ranks that both stay two ticks.
HALL = (((2, 2), (1, 2)), ((0, 1),))
BOOK = ((0,), (None,), (1,), (None,))
FIVE = (((5, 1),), ((0,),))
# Of these no comings do: one a tick comes, and two were taken.
FEW = (((1, 1), (1, 1)), ((0, 1), (0, 1)))
CANT_BE = ((0, 0),)


def some_alike(chance):
    many = chance.randrange(1, 5)
    stay = chance.randrange(1, 11)
    ranks = tuple((chance.randrange(1, 6), stay) for _ in range(many))
    return ranks, (tuple(range(many)),) * chance.randrange(1, 4)


class FirstTaken(unittest.TestCase):
    def test_books(self):
        # At tick 0 somebody of rank 0 was taken; rank 1 may have come then, or not until tick 2.
        self.assertEqual(first_taken(HALL, BOOK, (), 1, 1), (0, 2))
        self.assertEqual(first_taken(HALL, BOOK, (), 0, 1), (0, 0))
        # A second one of rank 0 can't have come by tick 2; at tick 3 the desk isn't free.
        self.assertEqual(first_taken(HALL, BOOK, (), 0, 2), (None, None))
        self.assertEqual(first_taken(HALL, BOOK, (), 1, 2), (2, None))

    def test_looks(self):
        self.assertEqual(first_taken(HALL, BOOK, ((0, 1, 0, 0),), 1, 1), (2, 2))
        self.assertEqual(first_taken(HALL, BOOK, ((0, 1, 1, 1),), 1, 1), (0, 0))

    def test_no_comings_do(self):
        for rank in (0, 1):
            for comer in (1, 2, 10 ** 30):
                self.assertIs(first_taken(FEW, CANT_BE, (), rank, comer), None)
                self.assertIs(first_taken(HALL, BOOK, ((0, 0, 1, 1),), rank, comer), None)

    def test_any_number(self):
        for comer in (201, 10 ** 6, 10 ** 40 - 1):
            self.assertEqual(first_taken(FIVE, ((0,),) * 40, (), 0, comer), (None, None))

    def test_one_rank_is_first_as_it_is(self):
        for comer in range(1, 41):
            told = first_taken(FIVE, ((0,),) * 40, (), 0, comer)
            self.assertEqual(told, (comer - 1, comer - 1))
        self.assertEqual(first_taken(FIVE, ((0,),) * 40, (), 0, 41), (None, None))

    def test_three_desks_and_stays_of_ten(self):
        hall = (((5, 10), (5, 10)), ((0, 1),) * 3)
        book = run(hall, ((5, 5),) * 40)
        self.assertEqual(book[:2], ((0, 0, 0), (None, None, None)))
        # Of rank 1 nothing is told but that they come.
        for comer in range(1, 13):
            self.assertEqual(first_taken(hall, book, (), 1, comer), ((comer - 1) // 3 * 10, None))
        self.assertEqual(first_taken(hall, book, (), 1, 13), (None, None))

    def test_small_halls(self):
        for hall, book, looks in slow.cases(12, slow.ALIKE):
            for rank, (most, _) in enumerate(hall[0]):
                for comer in range(1, most * len(book) + 3):
                    told = slow.first_taken(hall, book, looks, rank, comer)
                    self.assertEqual(first_taken(hall, book, looks, rank, comer), told)

    def test_by_every_order_just_as_many_are_taken(self):
        chance = Random(14)
        for _ in range(40):
            hall = some_alike(chance)
            comings = slow.some_comings(hall, 20, chance)
            order = list(range(len(hall[0])))
            chance.shuffle(order)
            book, other = slow.Story(hall, comings).book, slow.Story(hall, comings, order).book
            self.assertEqual([row.count(None) for row in book], [row.count(None) for row in other])

    def test_long_comings_lie_between(self):
        chance = Random(15)
        for _ in range(60):
            hall = some_alike(chance)
            comings = slow.some_comings(hall, chance.choice((1, 12, 40)), chance)
            book = run(hall, comings)
            for rank in range(len(hall[0])):
                gone = slow.Story(hall, comings, slow.put_first(hall, rank)).gone[rank]
                for comer in range(1, len(gone) + 3):
                    earliest, latest = first_taken(hall, book, (), rank, comer)
                    tick = gone[comer - 1] if comer <= len(gone) else 99
                    self.assertLessEqual(99 if earliest is None else earliest, tick)
                    self.assertGreaterEqual(99 if latest is None else latest, tick)

    def test_long_books_by_the_first_and_the_last_to_come(self):
        # All come latest in the first row of a rank, and earliest in the last one; other ranks' rows make no odds.
        chance = Random(16)
        for _ in range(40):
            hall = some_alike(chance)
            book = run(hall, slow.some_comings(hall, chance.choice((12, 40)), chance))
            self.assertGreater(how_many(hall, book, ()), 0)
            ranks = range(len(hall[0]))
            last = [row_at(hall, book, (), one, how_many_of(hall, book, (), one) - 1) for one in ranks]
            for rank in ranks:
                rows = [row_at(hall, book, (), one, 0) for one in ranks]
                late = slow.Story(hall, tuple(zip(*rows)), slow.put_first(hall, rank)).gone[rank]
                rows[rank] = last[rank]
                soon = slow.Story(hall, tuple(zip(*rows)), slow.put_first(hall, rank)).gone[rank]
                for comer in range(1, 60):
                    told = first_taken(hall, book, (), rank, comer)
                    self.assertEqual(told[0], soon[comer - 1] if comer <= len(soon) else None)
                    self.assertEqual(told[1], late[comer - 1] if comer <= len(late) else None)

    def test_kinds(self):
        told = first_taken(HALL, BOOK, (), 1, 1)
        self.assertIs(type(told), tuple)
        self.assertEqual([type(tick) for tick in told], [int, int])
        self.assertIs(type(first_taken(HALL, BOOK, (), 0, 2)), tuple)


class Refused(unittest.TestCase):
    # Halls that are not alike: by a stay; by a desk that doesn't take all; by both.
    OTHERS = (
        ((((2, 2), (1, 1)), ((0, 1),)), ((0,), (None,), (1,))),
        ((((1, 1), (1, 1)), ((0, 1), (1,))), ((0, 1),)),
        ((((1, 1), (1, 1), (1, 1)), ((0, 1), (0, 1))), ((0, 1),)),
        ((((1, 1), (1, 1), (1, 1)), ((0, 1, 2), (1, 2), (0, 1, 2))), ((0, 1, None),)),
        ((((1, 3), (1, 1)), ((0,), (1,))), ((0, 1),)),
    )
    BAD = {
        "hall": ((((2, 2), (True, 2)), ((0, 1),)), (((2, 2), (1, 2)), ((1, 0),)), [HALL], None),
        "book": (((0,), (0,)), ((2,),), ((True,),), (), [(0,)], ((None,),) * 41, None),
        "looks": (((40, 0, 0, 0),), ((0, 0, False, 0),), ((0, 0, 2, 1),), [], None),
        "rank": (4, -1, True, None, (0,), "0"),
        "comer": (0, -1, True, False, None, (1,), "1"),
    }
    REFUSALS = (
        ("hall", errors.NoHall), ("book", errors.NoBook), ("looks", errors.NoLooks), ("rank", errors.NoRank),
        ("comer", errors.NoComer),
    )

    def check(self, arguments, refusal):
        with self.assertRaises(errors.HallError) as caught:
            first_taken(*arguments)
        self.assertIs(type(caught.exception), refusal)

    def test_halls_that_are_not_alike(self):
        for hall, book in self.OTHERS:
            for rank in range(len(hall[0])):
                self.check([hall, book, (), rank, 1], errors.NotAlike)
                self.check([hall, book, (), rank, 10 ** 30], errors.NotAlike)

    def test_ahead_of_all_else(self):
        # Of these books no comings do, but that isn't told of a hall that isn't alike.
        self.check([(((1, 1), (1, 1)), ((0,), (0, 1))), ((0, 0),), (), 0, 1], errors.NotAlike)
        self.check([(((2, 2), (1, 1)), ((0, 1),)), ((0,),), ((0, 0, 1, 1), (0, 1, 9, 9)), 1, 1], errors.NotAlike)

    def test_halls_that_are_alike(self):
        for hall in ((((1, 7),), ((0,),)), (((1, 3), (5, 3)), ((0, 1),) * 3), (((2, 10),) * 4, ((0, 1, 2, 3),) * 2)):
            self.assertEqual(first_taken(hall, ((None,) * len(hall[1]),), (), 0, 1), (None, None))

    def test_each_refusal_ahead_of_the_later_ones(self):
        halls = ((HALL, BOOK),) + self.OTHERS
        for hall, book in halls:
            for place, (name, refusal) in enumerate(self.REFUSALS):
                for bad in self.BAD[name]:
                    arguments = [hall, book, (), 0, 1]
                    arguments[place] = bad
                    if name != "book" or not slow.is_book(hall, bad):
                        self.check(arguments, refusal)
                    for later, (other, _) in enumerate(self.REFUSALS[place + 1:], place + 1):
                        for worse in self.BAD[other]:
                            both = list(arguments)
                            both[later] = worse
                            if name != "book" or not slow.is_book(hall, bad):
                                self.check(both, refusal)

    def test_anything(self):
        for hall, book in (HALL, BOOK), self.OTHERS[0]:
            for place, (name, refusal) in enumerate(self.REFUSALS):
                for thing in slow.ANYTHING:
                    arguments = [hall, book, (), 0, 1]
                    arguments[place] = thing
                    good = {
                        "hall": slow.is_hall(thing), "book": slow.is_book(hall, thing),
                        "looks": slow.are_looks(hall, book, thing), "rank": slow.is_number(thing, 0, 1),
                        "comer": slow.is_number(thing, 1, 10 ** 50),
                    }
                    if not good[name]:
                        self.check(arguments, refusal)


if __name__ == "__main__":
    unittest.main()
