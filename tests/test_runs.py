"""[5] the book of comings, [6] comings that do."""

import unittest
from itertools import product
from random import Random

import slow
from hallback.errors import NoBook, NoComings, NoLooks
from hallback.halls import is_book
from hallback.runs import is_story, run

HALL = (((2, 2), (1, 1)), ((0, 1),))
COMINGS = ((1, 1), (0, 0), (0, 1), (2, 0))
BOOK = ((0,), (None,), (1,), (0,))


class Runs(unittest.TestCase):
    def test_the_first_rank_goes_first(self):
        self.assertEqual(run(HALL, COMINGS), BOOK)

    def test_folk_come_ahead_of_the_desks(self):
        self.assertEqual(run(HALL, ((0, 1), (1, 0))), ((1,), (0,)))

    def test_a_desk_takes_its_own_alone(self):
        self.assertEqual(run((((1, 1), (1, 1)), ((1,),)), ((1, 0), (1, 1))), ((None,), (1,)))
        self.assertEqual(run((((1, 1),) * 4, ((1, 3), (0, 2))), ((1, 0, 1, 1),)), ((3, 0),))

    def test_the_desks_take_one_after_another(self):
        hall = (((2, 1), (1, 1)), ((0, 1), (1,), (0,)))
        self.assertEqual(run(hall, ((1, 1),)), ((0, 1, None),))
        self.assertEqual(run(hall, ((0, 1),)), ((1, None, None),))
        self.assertEqual(run(hall, ((2, 0),)), ((0, None, 0),))

    def test_who_is_not_taken_waits_on(self):
        self.assertEqual(run((((5, 1),), ((0,),)), ((3,), (0,), (0,), (0,))), ((0,), (0,), (0,), (None,)))

    def test_stays_from_1_to_10(self):
        for stay in range(1, 11):
            book = run((((5, stay),), ((0,),)), ((5,),) * 40)
            self.assertEqual(book, tuple((0,) if tick % stay == 0 else (None,) for tick in range(40)))

    def test_a_desk_that_nobody_came_to_is_free(self):
        comings = ((0,),) * 5 + ((1,),) + ((0,),) * 3 + ((1,),) * 2
        taken = {5: (0,), 9: (0,)}
        book = run((((1, 4),), ((0,),)), comings)
        self.assertEqual(book, tuple(taken.get(tick, (None,)) for tick in range(11)))

    def test_all_comings_of_small_halls(self):
        for hall, ticks in slow.SMALL:
            for book, stories in slow.books_had(hall, ticks).items():
                for story in stories[:20]:
                    self.assertEqual(run(hall, story.comings), book)

    def test_long_comings_of_wide_halls(self):
        chance = Random(2)
        for _ in range(60):
            ranks = tuple((chance.randrange(1, 6), chance.randrange(1, 11)) for _ in range(chance.randrange(1, 5)))
            desks = []
            for _ in range(chance.randrange(1, 4)):
                desks.append(tuple(sorted(chance.sample(range(len(ranks)), chance.randrange(1, len(ranks) + 1)))))
            hall = (ranks, tuple(desks))
            often = chance.randrange(1, 8)
            comings = tuple(
                tuple(chance.randrange(most + 1) if chance.randrange(often) == 0 else 0 for most, _ in ranks)
                for _ in range(40)
            )
            book = run(hall, comings)
            self.assertEqual(book, slow.Story(hall, comings).book)
            self.assertIs(is_book(hall, book), True)
            self.assertIs(is_story(hall, book, (), comings), True)

    def test_comings_are_1_to_40_rows(self):
        hall = (((1, 1),), ((0,),))
        for many in (1, 2, 39, 40):
            self.assertEqual(run(hall, ((1,),) * many), ((0,),) * many)
        for many in (0, 41, 200):
            with self.assertRaises(NoComings):
                run(hall, ((1,),) * many)

    def test_a_row_has_a_number_for_each_rank_from_0_to_its_most(self):
        for one, other in product(range(-1, 7), repeat=2):
            if 0 <= one <= 2 and 0 <= other <= 1:
                run(HALL, ((one, other),))
            else:
                with self.assertRaises(NoComings):
                    run(HALL, ((one, other),))
        for row in ((), (0,), (0, 0, 0)):
            with self.assertRaises(NoComings):
                run(HALL, (row,))

    def test_no_comings(self):
        for thing in slow.with_one_changed(COMINGS):
            if not are_comings(HALL, thing):
                with self.assertRaises(NoComings):
                    run(HALL, thing)


def are_comings(hall, thing):
    if not slow.is_tuple(thing, 1, 40):
        return False
    for row in thing:
        if not slow.is_tuple(row, len(hall[0]), len(hall[0])):
            return False
        if not all(slow.is_number(many, 0, most) for many, (most, _) in zip(row, hall[0])):
            return False
    return True


class Stories(unittest.TestCase):
    def test_comings_that_do(self):
        self.assertIs(is_story(HALL, BOOK, (), COMINGS), True)
        self.assertIs(is_story(HALL, BOOK, (), ((1, 1), (0, 0), (0, 1), (1, 0))), True)
        self.assertIs(is_story(HALL, BOOK, (), ((2, 1), (0, 0), (0, 1), (1, 0))), False)

    def test_looks(self):
        # Behind the takings nobody, then one of rank 1 waits; at last one of each.
        for tick, left in enumerate(((0, 1), (0, 1), (0, 1), (1, 1))):
            for rank in (0, 1):
                for least in range(3):
                    for most in range(least, 4):
                        looks = ((tick, rank, least, most),)
                        answer = least <= left[rank] <= most
                        self.assertIs(is_story(HALL, BOOK, looks, COMINGS), answer)

    def test_all_looks_are_so(self):
        so = ((0, 1, 1, 1), (3, 0, 0, 99), (3, 1, 1, 2))
        self.assertIs(is_story(HALL, BOOK, so, COMINGS), True)
        for look in so:
            false = tuple(sorted(so[:1] + so[1:] + ((look[0], look[1], 98, 99),)))
            self.assertIs(is_story(HALL, BOOK, false, COMINGS), False)

    def test_as_many_ticks(self):
        self.assertIs(is_story(HALL, BOOK, (), COMINGS[:3]), False)
        self.assertIs(is_story(HALL, BOOK[:3], (), COMINGS[:3]), True)
        self.assertIs(is_story(HALL, BOOK[:3], (), COMINGS), False)

    def test_all_comings_of_small_halls(self):
        for hall, book, looks in slow.cases(4):
            every = slow.books_had(hall, len(book))
            for other, stories in every.items():
                for story in stories[:3]:
                    answer = other == book and story.is_so(looks)
                    self.assertIs(is_story(hall, book, looks, story.comings), answer)

    def test_anything(self):
        for looks in ((), ((3, 0, 0, 0),)):
            for thing in slow.with_one_changed(COMINGS):
                answer = False
                if are_comings(HALL, thing):
                    story = slow.Story(HALL, thing)
                    answer = story.book == BOOK and story.is_so(looks)
                self.assertIs(is_story(HALL, BOOK, looks, thing), answer)

    def test_what_is_no_book_is_refused_though_it_equals_that_of_the_comings(self):
        for book in (
            ((0,), (None,), (True,), (0,)), ((False,), (None,), (1,), (0,)), ((0,), (None,), (1,), (False,)),
            [(0,), (None,), (1,), (0,)], ((0,), [None], (1,), (0,)), ((0,), (None,), (1,), (0, None)),
        ):
            for comings in (COMINGS, COMINGS[:3], None):
                for looks in ((), None, ((3, 0, 0, 0),)):
                    with self.assertRaises(NoBook):
                        is_story(HALL, book, looks, comings)

    def test_any_book_with_comings_that_may_be_its(self):
        for book in slow.with_one_changed(BOOK):
            if slow.is_book(HALL, book):
                self.assertIs(is_story(HALL, book, (), COMINGS), book == BOOK)
            else:
                with self.assertRaises(NoBook):
                    is_story(HALL, book, (), COMINGS)

    def test_looks_are_refused_whatever_came(self):
        for comings in (COMINGS, COMINGS[:3], ((0, 0),) * 4, None):
            for looks in (None, [], ((4, 0, 0, 0),), ((0, 0, 0, 1), (0, 0, 0, 0)), ((0, 0, 0, True),)):
                with self.assertRaises(NoLooks):
                    is_story(HALL, BOOK, looks, comings)

    def test_the_first_turn_that_is_another_one_and_the_last(self):
        hall = (((2, 3), (2, 1)), ((0, 1), (1,)))
        comings = ((0, 2),) + ((1, 0),) * 38 + ((2, 0),)
        book = slow.Story(hall, comings).book
        self.assertIs(is_story(hall, book, (), comings), True)
        for tick in range(40):
            for desk, own in enumerate(hall[1]):
                for one in (None,) + own:
                    other = slow.changed(book, tick, desk, one)
                    if other != book and slow.is_book(hall, other):
                        self.assertIs(is_story(hall, other, (), comings), False)

    def test_nothing_is_changed(self):
        thing = [[1, 1], [0, 0], [0, 1], [2, 0]]
        is_story(HALL, BOOK, (), thing)
        is_story(HALL, BOOK, (), tuple(thing))
        self.assertEqual(thing, [[1, 1], [0, 0], [0, 1], [2, 0]])


if __name__ == "__main__":
    unittest.main()
