"""[7] stairs, [8] bars."""

import unittest
from itertools import product
from random import Random

import slow
from hallback.runs import is_story
from hallback.stairs import bar, can_be, first_bar, is_bar, stairs

# One desk for two ranks, of which the first stays two ticks.
HALL = (((2, 2), (1, 1)), ((0, 1),))
BOOK = ((0,), (None,), (1,), (0,))
# Two desks for one rank of which one a tick comes: they can't both take somebody at tick 0.
FEW = (((1, 1),), ((0,), (0,)))
FIVE = (((5, 1),), ((0,),))


class Stairs(unittest.TestCase):
    def test_stairs(self):
        self.assertEqual(stairs(HALL, BOOK, (), 0), [(1, 1), (1, 1), (1, 1), (2, 3)])
        self.assertEqual(stairs(HALL, BOOK, (), 1), [(0, 1), (0, 2), (1, 3), (1, 4)])

    def test_looks(self):
        self.assertEqual(stairs(HALL, BOOK, ((3, 0, 1, 5),), 0), [(1, 1), (1, 1), (1, 1), (3, 3)])
        self.assertEqual(stairs(HALL, BOOK, ((3, 1, 1, 1),), 1), [(0, 1), (0, 2), (1, 2), (2, 2)])
        self.assertEqual(stairs(HALL, BOOK, ((0, 1, 0, 0), (3, 1, 2, 99)), 1), [(0, 0), (1, 1), (2, 2), (3, 3)])
        self.assertEqual(stairs(HALL, BOOK, ((0, 0, 1, 1),), 1), None)

    def test_a_busy_desk_tells_nothing(self):
        hall = (((5, 3),), ((0,),))
        self.assertEqual(stairs(hall, ((0,), (None,), (None,), (None,)), (), 0), [(1, 1)] * 4)
        self.assertEqual(stairs(hall, ((0,), (None,), (None,)), (), 0), [(1, 5), (1, 10), (1, 15)])
        self.assertEqual(stairs(hall, ((None,), (0,), (None,)), (), 0), [(0, 0), (1, 5), (1, 10)])

    def test_a_free_desk_tells_of_each_rank_of_its_own_ahead(self):
        hall = (((1, 1),) * 4, ((0, 2, 3),))
        for taken, none_of in ((0, ()), (2, (0,)), (3, (0, 2)), (None, (0, 2, 3))):
            for rank in range(4):
                low = int(rank == taken)
                high = 0 if rank in none_of else 1
                self.assertEqual(stairs(hall, ((taken,),), (), rank), [(low, high)])

    def test_what_was_taken_ahead_of_the_turn_had_come(self):
        hall = (((3, 1), (3, 1)), ((0,), (0, 1), (1,)))
        self.assertEqual(stairs(hall, ((0, 1, 1),), (), 0), [(1, 1)])
        self.assertEqual(stairs(hall, ((0, 1, 1),), (), 1), [(2, 3)])
        self.assertEqual(stairs(hall, ((0, 1, None),), (), 1), [(1, 1)])
        self.assertEqual(stairs(hall, ((None, 1, None),), (), 0), [(0, 0)])
        # The first desk found nobody, so that the second can't have taken anybody.
        self.assertEqual(stairs(hall, ((None, 0, None),), (), 0), None)

    def test_none_where_another_rank_has_none(self):
        hall = (((1, 1), (5, 1)), ((0,), (0,), (1,)))
        book = ((0, 0, 1),)
        self.assertEqual(stairs(hall, book, (), 0), None)
        self.assertEqual(stairs(hall, book, (), 1), None)
        swapped = (((5, 1), (1, 1)), ((1,), (1,), (0,)))
        self.assertEqual(stairs(swapped, ((1, 1, 0),), (), 0), None)

    def test_a_rank_that_no_desk_takes(self):
        hall = (((1, 1), (5, 10)), ((0,),))
        for ticks in (1, 2, 40):
            book = ((0,),) * ticks
            self.assertEqual(stairs(hall, book, (), 1), [(0, 5 * tick + 5) for tick in range(ticks)])
            self.assertEqual(stairs(hall, book, (), 0), [(tick + 1, tick + 1) for tick in range(ticks)])

    def test_forty_ticks(self):
        self.assertEqual(stairs(FIVE, ((0,),) * 40, (), 0), [(tick + 1, 5 * tick + 5) for tick in range(40)])
        self.assertEqual(stairs(FIVE, ((None,),) * 40, (), 0), [(0, 0)] * 40)
        book = ((0,),) * 39 + ((None,),)
        self.assertEqual(
            stairs(FIVE, book, (), 0), [(tick + 1, min(39, 5 * tick + 5)) for tick in range(39)] + [(39, 39)]
        )

    def test_looks_of_0_and_of_99(self):
        book = ((0,),) * 40
        told = [(tick + 1, 5 * tick + 5) for tick in range(40)]
        self.assertEqual(stairs(FIVE, book, ((39, 0, 0, 99),), 0), [
            (low, min(high, 139)) for low, high in told
        ])
        self.assertEqual(stairs(FIVE, book, ((39, 0, 99, 99),), 0), [
            (max(low, 139 - 5 * (39 - tick)), min(high, 139)) for tick, (low, high) in enumerate(told)
        ])
        self.assertEqual(stairs(FIVE, book, ((39, 0, 0, 0),), 0), [(low, min(high, 40)) for low, high in told])
        self.assertEqual(stairs(FIVE, book, ((0, 0, 99, 99),), 0), None)

    def test_several_looks_of_one_tick(self):
        looks = ((3, 0, 0, 9), (3, 0, 1, 7), (3, 0, 2, 8), (3, 0, 4, 9), (3, 0, 5, 6), (3, 0, 5, 8))
        self.assertEqual(stairs(FIVE, ((0,),) * 4, looks, 0), [(1, 5), (2, 10), (4, 10), (9, 10)])

    def test_small_halls(self):
        for hall, book, looks in slow.cases():
            for rank in range(len(hall[0])):
                self.assertEqual(stairs(hall, book, looks, rank), slow.stairs(hall, book, looks, rank))

    def test_the_list_is_a_new_one(self):
        first = stairs(HALL, BOOK, (), 0)
        first.append(None)
        first[0] = None
        self.assertEqual(stairs(HALL, BOOK, (), 0), [(1, 1), (1, 1), (1, 1), (2, 3)])

    def test_kinds(self):
        told = stairs(HALL, BOOK, (), 1)
        self.assertIs(type(told), list)
        for pair in told:
            self.assertIs(type(pair), tuple)
            self.assertEqual([type(many) for many in pair], [int, int])


class CanBe(unittest.TestCase):
    def test_books(self):
        self.assertIs(can_be(HALL, BOOK, ()), True)
        self.assertIs(can_be(FEW, ((0, None),), ()), True)
        self.assertIs(can_be(FEW, ((None, None),), ()), True)
        self.assertIs(can_be(FEW, ((0, 0),), ()), False)
        self.assertIs(can_be(FEW, ((None, 0),), ()), False)

    def test_looks(self):
        self.assertIs(can_be(HALL, BOOK, ((3, 0, 1, 1),)), True)
        self.assertIs(can_be(HALL, BOOK, ((3, 0, 2, 99),)), False)
        self.assertIs(can_be(HALL, BOOK, ((0, 1, 1, 1), (3, 1, 0, 0))), True)
        self.assertIs(can_be(HALL, BOOK, ((1, 1, 2, 2), (2, 1, 0, 0))), False)

    def test_all_books_of_small_halls(self):
        for hall, ticks in slow.SMALL:
            for book in slow.some(slow.all_books(hall, ticks), 300, Random(4)):
                self.assertIs(can_be(hall, book, ()), bool(slow.stories(hall, book, ())))

    def test_small_halls(self):
        for hall, book, looks in slow.cases():
            self.assertIs(can_be(hall, book, looks), bool(slow.stories(hall, book, looks)))

    def test_comings_do_just_where_they_lie_between_the_stairs(self):
        for hall, book, looks in slow.cases(3):
            steps = [stairs(hall, book, looks, rank) for rank in range(len(hall[0]))]
            for stories in list(slow.books_had(hall, len(book)).values()):
                for story in stories[:5]:
                    between = None not in steps and all(
                        low <= story.had_come(rank, tick) <= high
                        for rank, pairs in enumerate(steps) for tick, (low, high) in enumerate(pairs)
                    )
                    self.assertIs(is_story(hall, book, looks, story.comings), between)


class FirstBar(unittest.TestCase):
    def test_books(self):
        self.assertEqual(first_bar(HALL, BOOK), None)
        self.assertEqual(first_bar(FEW, ((0, 0),)), 0)
        self.assertEqual(first_bar(FEW, ((0, None), (0, 0), (0, None))), 1)
        self.assertEqual(first_bar(FEW, ((0, None), (0, None), (None, 0))), 2)

    def test_what_bars_first_of_several_ranks(self):
        hall = (((1, 1), (1, 1)), ((0,), (1,), (0, 1)))
        self.assertEqual(first_bar(hall, ((0, 1, None), (0, 1, 1), (0, 1, 0))), 1)
        self.assertEqual(first_bar(hall, ((0, 1, None), (0, 1, 0), (0, 1, 1))), 1)
        self.assertEqual(first_bar(hall, ((0, 1, None), (0, 1, None), (0, 1, 1))), 2)

    def test_none_and_0_are_two_answers(self):
        self.assertIs(first_bar(HALL, BOOK), None)
        self.assertIs(type(first_bar(FEW, ((0, 0),))), int)

    def test_the_fortieth_tick(self):
        self.assertEqual(first_bar(FEW, ((0, None),) * 40), None)
        self.assertEqual(first_bar(FEW, ((0, None),) * 39 + ((0, 0),)), 39)

    def test_all_books_of_small_halls(self):
        for hall, ticks in slow.SMALL:
            for book in slow.some(slow.all_books(hall, ticks), 300, Random(4)):
                self.assertEqual(first_bar(hall, book), slow.first_bar(hall, book))


class Bars(unittest.TestCase):
    def test_one_bar(self):
        # Two were taken at tick 0, by which one can have come from tick -1 on.
        self.assertEqual(bar(FEW, ((0, 0),), ()), (0, -1, 0))
        self.assertIs(is_bar(FEW, ((0, 0),), (), (0, -1, 0)), True)

    def test_no_bar_where_comings_do(self):
        self.assertIs(bar(HALL, BOOK, ()), None)
        for thing in product(range(-2, 4), repeat=3):
            self.assertIs(is_bar(HALL, BOOK, (), thing), False)

    def test_at_most_must_be_told(self):
        # By tick 0 one at most can have come, but of tick 0 itself nothing is told.
        book = ((0, None), (0, 0))
        self.assertEqual(first_bar(FEW, book), 1)
        hall = (((1, 1), (1, 1)), ((0, 1), (0, 1)))
        self.assertIs(is_bar(hall, ((0, 1), (1, 1)), (), (1, -1, 1)), True)
        self.assertIs(is_bar(hall, ((0, 1), (1, 1)), (), (1, 0, 1)), False)
        self.assertIs(is_bar(hall, ((0, 1), (1, 1)), (), (1, 1, 1)), False)
        self.assertIs(is_bar(hall, ((0, 1), (1, 1)), (), (0, -1, 1)), False)

    def test_one_ahead_of_other_at_it_and_behind_it(self):
        # By tick 1 and by tick 3 nobody had come; two ticks bring two at most; three were left by tick 2.
        looks = ((0, 0, 0, 0), (2, 0, 3, 9), (3, 0, 0, 0))
        hall = (((1, 1), (1, 1)), ((1,),))
        book = ((None,),) * 4
        found = [thing for thing in product(range(-1, 2), range(-2, 5), range(-2, 5))
                 if is_bar(hall, book, looks, thing)]
        self.assertEqual(found, [(0, 0, 2), (0, 3, 2)])
        self.assertIs(is_bar(hall, book, ((2, 0, 0, 0), (2, 0, 1, 1)), (0, 2, 2)), True)
        self.assertIs(is_bar(hall, book, ((2, 0, 0, 1), (2, 0, 1, 1)), (0, 2, 2)), False)

    def test_small_halls(self):
        for hall, book, looks in slow.cases():
            every = slow.bars(hall, book, looks)
            told = bar(hall, book, looks)
            self.assertEqual(bool(every), not slow.stories(hall, book, looks))
            if every:
                self.assertIn(told, every)
                self.assertEqual([type(one) for one in told], [int, int, int])
                self.assertIs(type(told), tuple)
            else:
                self.assertIs(told, None)

    def test_is_bar_of_small_halls(self):
        for hall, book, looks in slow.cases(8):
            every = slow.bars(hall, book, looks)
            ticks = range(-2, len(book) + 1)
            for thing in product(range(-1, len(hall[0]) + 1), ticks, ticks):
                self.assertIs(is_bar(hall, book, looks, thing), thing in every)

    def test_bars_of_a_long_book(self):
        book = ((None,),) + ((0,),) * 39
        told = bar(FIVE, book, ((39, 0, 99, 99),))
        self.assertIs(told, None)
        hall = (((3, 1),), ((0,),))
        looks = ((39, 0, 79, 79),)
        self.assertEqual(bar(hall, book, looks), (0, 0, 39))
        self.assertIs(is_bar(hall, book, looks, (0, 0, 39)), True)
        self.assertIs(is_bar(hall, book, looks, (0, -1, 39)), False)
        self.assertIs(bar(hall, book, ((39, 0, 78, 78),)), None)

    def test_anything(self):
        hall = (((1, 1), (1, 1)), ((0,), (1,), (1,)))
        book = ((None, 1, None), (None, 1, 1))
        for thing in ((1, -1, 1), (1, 0, 1)):
            self.assertIs(is_bar(hall, book, (), thing), True)
            for other in slow.with_one_changed(thing):
                answer = slow.is_tuple(other, 3, 3) and all(slow.is_number(one, -1, 9) for one in other)
                answer = answer and other in slow.bars(hall, book, ())
                self.assertIs(is_bar(hall, book, (), other), answer)

    def test_only_ranks_and_ticks_of_the_book(self):
        hall = (((1, 10),), ((0,), (0,), (0,)))
        book = ((0, 0, 0),) + ((None, None, None),) * 9
        for rank, one, other in product(range(-3, 6), range(-3, 12), range(-3, 12)):
            # By tick 0 three were taken, of which one a tick can come, and none had come ahead of it.
            answer = rank == 0 and one == -1 and other in (0, 1)
            self.assertIs(is_bar(hall, book, (), (rank, one, other)), answer)

    def test_truths_are_no_numbers(self):
        hall = (((1, 1), (1, 1)), ((0,), (1,), (1,)))
        book = ((None, 1, None), (None, 1, 1))
        for thing in ((True, 0, 1), (1, False, 1), (1, 0, True), [1, 0, 1], (1, 0, 1, 1), (1, 0)):
            self.assertIs(is_bar(hall, book, (), thing), False)

    def test_nothing_is_changed(self):
        thing = [[1], 0, 1]
        is_bar(HALL, BOOK, (), thing)
        is_bar(HALL, BOOK, (), tuple(thing))
        self.assertEqual(thing, [[1], 0, 1])


if __name__ == "__main__":
    unittest.main()
