"""The answers at two halls of four ranks and three desks, and their books of forty ticks: one tick's stay, and ten."""

import unittest

import long_told
from hallback.comers import because, came, taken, waiting, waits
from hallback.halls import are_looks, is_book, is_hall
from hallback.nexts import best_look, nexts
from hallback.rows import how_many, how_many_of, number_of, row_at
from hallback.runs import is_story, run
from hallback.stairs import bar, can_be, first_bar, is_bar, stairs

COMINGS = ((1, 0, 1, 1), (0, 2, 0, 1)) * 20
RANKS = range(4)
TICKS = range(40)
SHORT = (((5, 1),) * 4, ((0, 1, 2, 3),) * 3)
LONG = (((5, 10),) * 4, ((0, 1, 2, 3),) * 3)
SHORT_BOOK = ((0, 2, 3), (1, 1, 3)) * 20
NOBODY = (None, None, None)
LONG_BOOK = ((0, 2, 3),) + (NOBODY,) * 9 + (((0, 0, 0),) + (NOBODY,) * 9) * 3


def rows_by_hand(pairs, most):
    """How many rows there are that lie between the stairs, counted tick by tick."""
    ways = {0: 1}
    for low, high in pairs:
        found = {}
        for many, ahead in ways.items():
            for come in range(most + 1):
                if low <= many + come <= high:
                    found[many + come] = found.get(many + come, 0) + ahead
        ways = found
    return sum(ways.values())


class Long(unittest.TestCase):
    def check_all_else(self, hall, book, comings):
        self.assertIs(is_hall(hall), True)
        self.assertIs(is_book(hall, book), True)
        self.assertEqual(run(hall, comings), book)
        self.assertIs(is_story(hall, book, (), comings), True)
        self.assertIs(is_story(hall, book, (), comings[::-1]), False)
        self.assertIs(is_story(hall, book, (), comings[:39] + ((0, 2, 0, 0),)), hall == LONG)
        self.assertIs(can_be(hall, book, ()), True)
        self.assertIs(first_bar(hall, book), None)
        self.assertIs(bar(hall, book, ()), None)
        for thing in ((0, -1, 3), (3, -1, 39), (0, 0, 0), (1, 38, 39)):
            self.assertIs(is_bar(hall, book, (), thing), False)

    def test_the_book_of_short_stays(self):
        self.check_all_else(SHORT, SHORT_BOOK, COMINGS)
        self.assertIs(is_book(SHORT, SHORT_BOOK[:39] + ((0, True, 3),)), False)

    def test_the_book_of_long_stays(self):
        self.check_all_else(LONG, LONG_BOOK, COMINGS)
        self.assertIs(is_book(LONG, LONG_BOOK[:39] + ((None, None, 3),)), False)

    def test_stairs_of_short_stays(self):
        by_two = [tick // 2 + 1 for tick in TICKS]
        self.assertEqual(stairs(SHORT, SHORT_BOOK, (), 0), list(zip(by_two, by_two)))
        self.assertEqual(stairs(SHORT, SHORT_BOOK, (), 1), [((tick + 1) // 2 * 2,) * 2 for tick in TICKS])
        self.assertEqual(stairs(SHORT, SHORT_BOOK, (), 2), list(zip(by_two, by_two)))
        self.assertEqual(stairs(SHORT, SHORT_BOOK, (), 3), [(tick + 1, 5 * tick + 5) for tick in TICKS])

    def test_stairs_of_long_stays(self):
        by_ten = [max(1, tick // 10 * 3 + 1) for tick in TICKS]
        self.assertEqual(stairs(LONG, LONG_BOOK, (), 0), [(by_ten[tick], 5 * tick + 1) for tick in TICKS])
        self.assertEqual(stairs(LONG, LONG_BOOK, (), 1), [(0, 5 * tick) for tick in TICKS])
        self.assertEqual(stairs(LONG, LONG_BOOK, (), 2), [(1, 5 * tick + 1) for tick in TICKS])
        self.assertEqual(stairs(LONG, LONG_BOOK, (), 3), [(1, 5 * tick + 5) for tick in TICKS])

    def check_rows(self, hall, book, rows, thirds):
        all_times = 1
        for rank in RANKS:
            many, number = rows[rank]
            all_times *= many
            self.assertEqual(how_many_of(hall, book, (), rank), many)
            self.assertEqual(rows_by_hand(stairs(hall, book, (), rank), 5), many)
            self.assertEqual(number_of(hall, book, (), rank, tuple(row[rank] for row in COMINGS)), number)
            self.assertEqual(row_at(hall, book, (), rank, number), tuple(row[rank] for row in COMINGS))
            self.assertEqual(row_at(hall, book, (), rank, many // 3), thirds[rank])
            self.assertEqual(number_of(hall, book, (), rank, thirds[rank]), many // 3)
        self.assertEqual(how_many(hall, book, ()), all_times)

    def test_rows_of_short_stays(self):
        self.check_rows(SHORT, SHORT_BOOK, long_told.SHORT_ROWS, long_told.SHORT_THIRD)
        self.assertEqual(how_many(SHORT, SHORT_BOOK, ()), 10542953976288043705054769774872)

    def test_rows_of_long_stays(self):
        self.check_rows(LONG, LONG_BOOK, long_told.LONG_ROWS, long_told.LONG_THIRD)

    def test_rows_with_looks(self):
        looks = ((9, 3, 3, 20), (19, 0, 2, 40), (29, 1, 0, 99), (39, 0, 0, 99), (39, 3, 50, 60))
        self.assertIs(are_looks(LONG, LONG_BOOK, looks), True)
        for rank, last in enumerate(((10, 109), (0, 149), (1, 196), (51, 61))):
            pairs = stairs(LONG, LONG_BOOK, looks, rank)
            self.assertEqual(pairs[39], last)
            self.assertEqual(how_many_of(LONG, LONG_BOOK, looks, rank), rows_by_hand(pairs, 5))

    def test_next_and_looked_at(self):
        self.assertEqual(nexts(SHORT, SHORT_BOOK, ()), long_told.SHORT_NEXTS)
        self.assertEqual(nexts(LONG, LONG_BOOK, ()), long_told.LONG_NEXTS)
        self.assertEqual(best_look(SHORT, SHORT_BOOK, ()), long_told.SHORT_BEST)
        self.assertEqual(best_look(LONG, LONG_BOOK, ()), long_told.LONG_BEST)
        # Whoever comes next, some row is taken.
        self.assertEqual(sum(many for _, many in long_told.SHORT_NEXTS), how_many(SHORT, SHORT_BOOK, ()) * 6 ** 4)
        self.assertEqual(sum(many for _, many in long_told.LONG_NEXTS), how_many(LONG, LONG_BOOK, ()) * 6 ** 4)

    def test_comers(self):
        asked = (1, 3, 20, 21, 41)
        for hall, book, told_came, told_taken in (
            (SHORT, SHORT_BOOK, (
                ((0, 0), (4, 4), (38, 38), (None, None), (None, None)),
                ((1, 1), (3, 3), (19, 19), (21, 21), (None, None)),
                ((0, 0), (4, 4), (38, 38), (None, None), (None, None)),
                ((0, 0), (0, 2), (3, 19), (4, 20), (8, None)),
            ), ((0, 4, 38, None, None), (1, 3, 19, 21, None), (0, 4, 38, None, None), (0, 2, 19, 20, None))),
            (LONG, LONG_BOOK, (
                ((0, 0), (1, 10), (4, None), (4, None), (8, None)),
                ((1, None), (1, None), (4, None), (5, None), (9, None)),
                ((0, 0), (1, None), (4, None), (4, None), (8, None)),
                ((0, 0), (0, None), (3, None), (4, None), (8, None)),
            ), ((0, 10, None, None, None), (None,) * 5, (0,) + (None,) * 4, (0,) + (None,) * 4)),
        ):
            for rank in RANKS:
                self.assertEqual(tuple(came(hall, book, (), rank, comer) for comer in asked), told_came[rank])
                self.assertEqual(tuple(taken(hall, book, rank, comer) for comer in asked), told_taken[rank])

    def test_how_long_they_waited(self):
        none = (0, 0)
        self.assertEqual([waits(SHORT, SHORT_BOOK, (), rank) for rank in RANKS], [none, none, none, (0, 640)])
        self.assertEqual([waits(LONG, LONG_BOOK, (), rank) for rank in RANKS], [(0, 167), none, none, none])
        for hall, book, left, because_of in (
            (SHORT, SHORT_BOOK, ([none] * 4, [none] * 4, [none] * 4, [(0, 4), (0, 16), (0, 84), (0, 160)]), (
                [none] * 4, [none] * 4, [none] * 4, [(0, 1600), (0, 3360), (0, 1600), (0, 3280)],
            )),
            (LONG, LONG_BOOK, (
                [none, (0, 15), (0, 94), (0, 186)], [none, (0, 15), (0, 100), (0, 195)],
                [none, (0, 15), (0, 100), (0, 195)], [(0, 4), (0, 19), (0, 104), (0, 199)],
            ), (
                [(0, 846), none, none, none], [(0, 900), none, none, none],
                [(0, 900), none, none, none], [(0, 940), none, (0, 4), (0, 4)],
            )),
        ):
            for rank in RANKS:
                self.assertEqual([waiting(hall, book, (), rank, tick) for tick in (0, 3, 20, 39)], left[rank])
                self.assertEqual([because(hall, book, (), rank, other) for other in RANKS], because_of[rank])


if __name__ == "__main__":
    unittest.main()
