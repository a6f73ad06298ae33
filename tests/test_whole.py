"""[1] and [3] the whole, [2] answers that hang on nothing but what was asked."""

import unittest
from itertools import permutations
from random import Random

import slow
from hallback.comers import because, came, taken, waiting, waits
from hallback.first import first_taken
from hallback.halls import are_looks, is_book, is_hall
from hallback.kept import Kept
from hallback.mends import mends, stays
from hallback.nexts import best_look, nexts
from hallback.orders import must_be_ahead, orders
from hallback.rows import how_many, how_many_of, number_of, row_at
from hallback.runs import is_story, run
from hallback.stairs import bar, can_be, first_bar, is_bar, stairs


def is_alike(hall):
    ranks, desks = hall
    return len({stay for _, stay in ranks}) == 1 and all(len(desk) == len(ranks) for desk in desks)


def answers(hall, book, looks):
    """All that is told of a book with looks, with some rank, tick and comer."""
    tick = len(book) // 2
    found = [is_hall(hall), is_book(hall, book), are_looks(hall, book, looks), can_be(hall, book, looks)]
    found += [first_bar(hall, book), bar(hall, book, looks), is_bar(hall, book, looks, (0, -1, tick))]
    found += [how_many(hall, book, looks), nexts(hall, book, looks), best_look(hall, book, looks)]
    found += [mends(hall, book), orders(hall, book), must_be_ahead(hall, book)]
    for rank in range(len(hall[0])):
        found += [stays(hall, book, rank)]
        if is_alike(hall):
            found += [first_taken(hall, book, looks, rank, 1)]
        found += [stairs(hall, book, looks, rank), how_many_of(hall, book, looks, rank)]
        found += [came(hall, book, looks, rank, 1), taken(hall, book, rank, 1), waits(hall, book, looks, rank)]
        found += [waiting(hall, book, looks, rank, tick), because(hall, book, looks, rank, 0)]
    return found


class Whole(unittest.TestCase):
    def test_ranks_never_touch_one_another(self):
        # Any row of one rank goes with any rows of the others.
        for hall, book, looks in slow.cases(6):
            many = how_many(hall, book, looks)
            rows = [
                [row_at(hall, book, looks, rank, number) for number in range(how_many_of(hall, book, looks, rank))]
                for rank in range(len(hall[0]))
            ]
            times = 1
            for some in rows:
                times *= len(some)
            self.assertEqual(times, many)
            for step in range(min(many, 5)):
                comings = tuple(zip(*[some[step * 7 % len(some)] for some in rows]))
                self.assertIs(is_story(hall, book, looks, comings), True)
                self.assertEqual(run(hall, comings), book)

    def test_there_are_just_so_many_as_told(self):
        for hall, book, looks in slow.cases(4):
            every = [story for stories in slow.books_had(hall, len(book)).values() for story in stories]
            if len(every) < 700:
                many = sum(is_story(hall, book, looks, story.comings) for story in every)
                self.assertEqual(how_many(hall, book, looks), many)

    def test_all_answers_agree_that_none_do(self):
        for hall, book, looks in slow.cases():
            none = not can_be(hall, book, looks)
            self.assertEqual(none, how_many(hall, book, looks) == 0)
            self.assertEqual(none, nexts(hall, book, looks) == [])
            if not looks:
                self.assertEqual(none, tuple(range(len(hall[0]))) not in dict(orders(hall, book)))
            self.assertEqual(none, bar(hall, book, looks) is not None)
            if none:
                self.assertIs(is_bar(hall, book, looks, bar(hall, book, looks)), True)
                self.assertIs(best_look(hall, book, looks), None)
            for rank in range(len(hall[0])):
                self.assertEqual(none, stairs(hall, book, looks, rank) is None)
                self.assertEqual(none, how_many_of(hall, book, looks, rank) == 0)
                self.assertEqual(none, came(hall, book, looks, rank, 1) is None)
                self.assertEqual(none, waits(hall, book, looks, rank) is None)
                self.assertEqual(none, waiting(hall, book, looks, rank, 0) is None)
                self.assertEqual(none, because(hall, book, looks, rank, 0) is None)

    def test_the_numbers_of_a_rank_are_its_own(self):
        hall = (((2, 1), (1, 1), (5, 1)), ((0, 1),))
        book = ((0,), (1,), (None,))
        self.assertEqual(how_many(hall, book, ()), 1 * 2 * 216)
        self.assertEqual([row_at(hall, book, (), 1, number) for number in (0, 1)], [(0, 1, 0), (1, 0, 0)])
        self.assertEqual(number_of(hall, book, (), 2, (5, 5, 5)), 215)

    def test_a_bar_shows_that_no_comings_do(self):
        for hall, book, looks in slow.cases():
            told = bar(hall, book, looks)
            self.assertEqual(told is None, bool(slow.stories(hall, book, looks)))

    def test_a_book_can_be_by_just_the_orders_that_the_pairs_allow(self):
        for hall, book, looks in slow.cases(6):
            pairs = must_be_ahead(hall, book)
            ranks = range(len(hall[0]))
            allowed = [] if pairs is None else [
                order for order in permutations(ranks)
                if all(order.index(one) < order.index(other) for one, other in pairs)
            ]
            told = orders(hall, book)
            self.assertEqual([order for order, _ in told], allowed)
            self.assertEqual(pairs is None, not told)
            # The hall's own order is the rising one.
            self.assertEqual(dict(told).get(tuple(ranks), 0), how_many(hall, book, ()))

    def test_what_bars_one_rank_ahead_of_another_does_so_whatever_the_order_of_the_others(self):
        for hall, book, _ in slow.cases(6):
            for one, other in must_be_ahead(hall, book) or []:
                for order, _ in slow.orders(hall, book):
                    self.assertLess(order.index(one), order.index(other))

    def test_a_book_with_a_mend_and_one_with_a_stay_can_be(self):
        for hall, book, _ in slow.cases(6):
            for tick, desk, one in mends(hall, book):
                self.assertIs(can_be(hall, slow.changed(book, tick, desk, one), ()), True)
            for rank, (_, stay) in enumerate(hall[0]):
                told = stays(hall, book, rank)
                self.assertEqual(stay in told, can_be(hall, book, ()))
                for other in told:
                    self.assertIs(can_be(slow.with_stay(hall, rank, other), book, ()), True)

    def test_where_all_are_alike_just_as_many_are_taken_by_every_order(self):
        chance = Random(19)
        for hall, book, looks in slow.cases(4, slow.ALIKE):
            for story in slow.some(slow.stories(hall, book, looks), 5, chance):
                for order in permutations(range(len(hall[0]))):
                    other = slow.Story(hall, story.comings, order).book
                    self.assertEqual([row.count(None) for row in other], [row.count(None) for row in book])

    def test_a_comer_of_a_rank_put_first_is_taken_between_the_told_ticks(self):
        chance = Random(20)
        for hall, book, looks in slow.cases(4, slow.ALIKE):
            for story in slow.some(slow.stories(hall, book, looks), 5, chance):
                for rank in range(len(hall[0])):
                    gone = slow.Story(hall, story.comings, slow.put_first(hall, rank)).gone[rank]
                    for comer, tick in enumerate(gone, 1):
                        earliest, latest = first_taken(hall, book, looks, rank, comer)
                        self.assertLessEqual(earliest, tick)
                        self.assertTrue(latest is None or latest >= tick)
                        # Nobody of a rank that goes first is taken later than they were.
                        was = taken(hall, book, rank, comer)
                        self.assertTrue(was is None or latest is not None and latest <= was)

    def test_a_kept_hall_tells_what_its_book_and_looks_tell(self):
        for hall, book, looks in slow.cases(4):
            if can_be(hall, book, looks):
                kept = Kept(hall)
                for row in book:
                    kept.tick(row)
                for look in reversed(looks):
                    kept.look(look)
                self.assertEqual((kept.book(), kept.looks(), len(kept)), (book, looks, len(book)))
                self.assertEqual(kept.how_many(), how_many(hall, book, looks))
                for rank in range(len(hall[0])):
                    self.assertEqual(kept.waiting(rank), waiting(hall, book, looks, rank, len(book) - 1))

    def test_the_widest_hall_and_the_longest_book(self):
        hall = (((5, 1), (5, 10), (1, 1), (1, 10)), ((0, 1, 2, 3), (1, 3), (0,)))
        comings = tuple((tick % 2 * 5, tick % 9 // 8, tick % 4 // 3, tick % 6 // 5) for tick in range(40))
        book = slow.Story(hall, comings).book
        # No more than 90 can wait by tick 17, so that these looks bar nothing.
        looks = tuple((3 * step + 2, step % 4, 0, 99) for step in range(6))
        self.assertIs(is_story(hall, book, looks, comings), True)
        self.assertEqual(how_many(hall, book, looks), how_many(hall, book, ()))
        for rank in range(4):
            row = tuple(row[rank] for row in comings)
            number = number_of(hall, book, looks, rank, row)
            self.assertEqual(row_at(hall, book, looks, rank, number), row)
            for tick, (low, high) in enumerate(stairs(hall, book, looks, rank)):
                self.assertTrue(low <= sum(row[:tick + 1]) <= high)


class Asked(unittest.TestCase):
    def test_the_same_asked_again_is_answered_the_same(self):
        cases = slow.cases(2)
        first = [answers(hall, book, looks) for hall, book, looks in cases]
        again = [answers(hall, book, looks) for hall, book, looks in reversed(cases)]
        self.assertEqual(first, again[::-1])

    def test_a_list_told_is_the_askers_own(self):
        for hall, book, looks in slow.cases(1):
            for ask in (
                lambda: nexts(hall, book, looks), lambda: stairs(hall, book, looks, 0), lambda: mends(hall, book),
                lambda: stays(hall, book, 0), lambda: orders(hall, book), lambda: must_be_ahead(hall, book),
            ):
                told = ask()
                if told is not None:
                    kept = list(told)
                    self.assertIsNot(told, ask())
                    told.clear()
                    told.append("changed")
                    self.assertEqual(ask(), kept)

    def test_an_int_that_is_no_truth_is_a_whole_number(self):
        class Number(int):
            """An int of a class of its own, as bool is."""

        def numbered(thing):
            if isinstance(thing, tuple):
                return tuple(numbered(part) for part in thing)
            return None if thing is None else Number(thing)

        for hall, book, looks in slow.cases(1):
            other = [numbered(hall), numbered(book), numbered(looks)]
            self.assertEqual(answers(*other), answers(hall, book, looks))
            for story in slow.stories(hall, book, ()):
                self.assertIs(is_story(*other, numbered(story.comings)), story.is_so(looks))

    def test_truths_are_told_as_truths(self):
        for hall, book, looks in slow.cases(1):
            for told in (is_hall(hall), is_book(hall, book), are_looks(hall, book, looks), can_be(hall, book, looks)):
                self.assertIs(type(told), bool)
            self.assertIs(type(is_story(hall, book, looks, None)), bool)
            self.assertIs(type(is_bar(hall, book, looks, None)), bool)

    def test_no_answer_is_a_truth_in_the_place_of_a_number(self):
        for hall, book, looks in slow.cases(1):
            told = [how_many(hall, book, looks), how_many_of(hall, book, looks, 0)]
            told += [one for pair in stairs(hall, book, looks, 0) or [] for one in pair]
            told += [one for pair in nexts(hall, book, looks) for one in pair[0] + pair[1:] if one is not None]
            told += list(bar(hall, book, looks) or ())
            told += [one for mend in mends(hall, book) for one in mend if one is not None] + stays(hall, book, 0)
            told += [one for order, many in orders(hall, book) for one in (*order, many)]
            told += [one for pair in must_be_ahead(hall, book) or [] for one in pair]
            self.assertEqual([type(one) for one in told], [int] * len(told))


if __name__ == "__main__":
    unittest.main()
