"""[18] a hall kept, tick by tick."""

import unittest
from itertools import product
from random import Random

import slow
from hallback import errors
from hallback.comers import waiting
from hallback.kept import Kept
from hallback.rows import how_many
from hallback.runs import run

HALL = (((2, 2), (1, 1)), ((0, 1),))
BOOK = ((0,), (None,), (1,), (0,))
FEW = (((1, 1),), ((0,), (0,)))
FIVE = (((5, 1),), ((0,),))


def kept_of(hall, book=(), looks=()):
    kept = Kept(hall)
    for row in book:
        kept.tick(row)
    for look in looks:
        kept.look(look)
    return kept


def told(kept, hall):
    ranks = range(len(hall[0]))
    return (kept.book(), kept.looks(), kept.how_many(), [kept.waiting(rank) for rank in ranks], len(kept))


class Model:
    """A kept hall as the document tells it, by trying all comings; each deed answers the name of its refusal."""

    def __init__(self, hall):
        self.hall = hall
        self.states = [((), ())]

    def tick(self, row):
        book, looks = self.states[-1]
        if not slow.is_book(self.hall, book + (row,)):
            return "NoRow"
        return self.go_on(book + (row,), looks)

    def look(self, look):
        book, looks = self.states[-1]
        if not book or not slow.are_looks(self.hall, book, (look,)) or look in looks or len(looks) == 6:
            return "NoLooks"
        return self.go_on(book, tuple(sorted(looks + (look,))))

    def go_on(self, book, looks):
        if not slow.stories(self.hall, book, looks):
            return "CantBe"
        self.states.append((book, looks))
        return None

    def back(self):
        if len(self.states) == 1:
            return "NothingLeft"
        self.states.pop()
        return None

    def told(self):
        book, looks = self.states[-1]
        ranks = range(len(self.hall[0]))
        if not book:
            return ((), (), 1, [(0, 0) for _ in ranks], 0)
        left = [slow.waiting(self.hall, book, looks, rank, len(book) - 1) for rank in ranks]
        return (book, looks, len(slow.stories(self.hall, book, looks)), left, len(book))


def outcome(do, *things):
    try:
        assert do(*things) is None
    except errors.HallError as refusal:
        return type(refusal).__name__
    return None


class Deeds(unittest.TestCase):
    def test_no_ticks_yet(self):
        kept = Kept(HALL)
        self.assertEqual(told(kept, HALL), ((), (), 1, [(0, 0), (0, 0)], 0))

    def test_ticks(self):
        kept = Kept(HALL)
        for tick, row in enumerate(BOOK):
            self.assertIs(kept.tick(row), None)
            self.assertEqual(kept.book(), BOOK[:tick + 1])
            self.assertEqual(len(kept), tick + 1)
            self.assertEqual(kept.how_many(), how_many(HALL, BOOK[:tick + 1], ()))
            for rank in (0, 1):
                self.assertEqual(kept.waiting(rank), waiting(HALL, BOOK[:tick + 1], (), rank, tick))
        self.assertEqual(kept.how_many(), 28)
        self.assertEqual([kept.waiting(0), kept.waiting(1)], [(0, 1), (0, 3)])

    def test_looks_are_told_rising(self):
        kept = kept_of(HALL, BOOK)
        for look in ((3, 0, 0, 1), (0, 1, 0, 1), (3, 0, 0, 0)):
            self.assertIs(kept.look(look), None)
        self.assertEqual(kept.looks(), ((0, 1, 0, 1), (3, 0, 0, 0), (3, 0, 0, 1)))
        self.assertEqual(kept.waiting(0), (0, 0))
        self.assertEqual(kept.how_many(), how_many(HALL, BOOK, kept.looks()))

    def test_looks_and_ticks_by_turns(self):
        kept = Kept(FIVE)
        kept.tick((0,))
        kept.look((0, 0, 1, 3))
        kept.tick((0,))
        self.assertEqual((kept.looks(), kept.waiting(0)), (((0, 0, 1, 3),), (0, 7)))
        # A look of a tick that went by long ago.
        kept.look((0, 0, 3, 4))
        self.assertEqual((kept.looks(), kept.waiting(0)), (((0, 0, 1, 3), (0, 0, 3, 4)), (2, 7)))

    def test_back(self):
        kept = Kept(FIVE)
        states = [told(kept, FIVE)]
        for deed, thing in (
            (kept.tick, (0,)), (kept.look, (0, 0, 1, 3)), (kept.tick, (0,)), (kept.look, (1, 0, 0, 5)),
            (kept.look, (0, 0, 2, 9)), (kept.tick, (0,)),
        ):
            deed(thing)
            states.append(told(kept, FIVE))
        for state in states[:0:-1]:
            self.assertEqual(told(kept, FIVE), state)
            self.assertIs(kept.back(), None)
        self.assertEqual(told(kept, FIVE), states[0])
        self.assertRaises(errors.NothingLeft, kept.back)
        self.assertRaises(errors.NothingLeft, kept.back)
        self.assertEqual(told(kept, FIVE), states[0])
        kept.tick((None,))
        self.assertEqual(kept.book(), ((None,),))

    def test_a_refused_deed_is_none_to_be_taken_back(self):
        kept = kept_of(FEW, ((0, None),))
        for refusal, deed, thing in (
            (errors.CantBe, kept.tick, (0, 0)), (errors.NoRow, kept.tick, (0,)), (errors.CantBe, kept.look, (0, 0, 1, 1)),
            (errors.NoLooks, kept.look, (1, 0, 0, 0)),
        ):
            self.assertRaises(refusal, deed, thing)
            self.assertEqual(told(kept, FEW), (((0, None),), (), 1, [(0, 0)], 1))
        kept.back()
        self.assertRaises(errors.NothingLeft, kept.back)

    def test_what_is_refused_may_do_later(self):
        kept = Kept(FEW)
        self.assertRaises(errors.CantBe, kept.tick, (0, 0))
        kept.tick((0, None))
        self.assertRaises(errors.NoLooks, kept.look, (1, 0, 0, 0))
        kept.tick((0, None))
        kept.look((1, 0, 0, 0))
        self.assertRaises(errors.NoLooks, kept.look, (1, 0, 0, 0))
        kept.back()
        kept.look((1, 0, 0, 0))
        self.assertEqual(kept.looks(), ((1, 0, 0, 0),))

    def test_forty_ticks(self):
        kept = kept_of(FIVE, ((0,),) * 40)
        before = told(kept, FIVE)
        for row in ((0,), (None,), (0, 0), None):
            self.assertRaises(errors.NoRow, kept.tick, row)
        self.assertEqual(told(kept, FIVE), before)
        self.assertEqual(len(kept), 40)
        self.assertEqual(kept.waiting(0), (0, 160))
        self.assertEqual(kept.how_many(), how_many(FIVE, ((0,),) * 40, ()))
        for _ in range(40):
            kept.back()
        self.assertRaises(errors.NothingLeft, kept.back)

    def test_six_looks(self):
        looks = [(0, 0, 0, most) for most in range(4, 10)]
        kept = kept_of(FIVE, ((0,),), looks)
        self.assertEqual(kept.looks(), tuple(looks))
        # One too many is refused as such, though it could not be, either.
        for look in ((0, 0, 0, 3), (0, 0, 9, 9), looks[0]):
            self.assertRaises(errors.NoLooks, kept.look, look)
        kept.back()
        self.assertRaises(errors.CantBe, kept.look, (0, 0, 9, 9))
        kept.look((0, 0, 0, 3))
        self.assertEqual(kept.looks(), ((0, 0, 0, 3),) + tuple(looks[:5]))

    def test_many_deeds(self):
        chance = Random(17)
        for hall, most_ticks in slow.SMALL:
            rows = list(product(*[(None,) + desk for desk in hall[1]]))
            kept, model = Kept(hall), Model(hall)
            for _ in range(50):
                kind = chance.choice(("tick", "tick", "look", "look", "back"))
                if kind == "back":
                    things = ()
                elif kind == "look":
                    least = chance.choice((0, 0, 0, 1, 2))
                    tick = chance.randrange(max(1, len(kept) + (chance.random() < 0.2)))
                    things = ((tick, chance.randrange(len(hall[0])), least, least + chance.choice((0, 1, 4))),)
                    if chance.random() < 0.2:
                        things = (chance.choice((kept.looks() or (None,))),)
                else:
                    if len(kept) == most_ticks:
                        continue
                    things = (chance.choice(rows),)
                done = outcome(getattr(kept, kind), *things)
                self.assertEqual(done, getattr(model, kind)(*things))
                self.assertEqual(told(kept, hall), model.told())

    def test_many_deeds_of_a_long_book(self):
        chance = Random(18)
        for _ in range(6):
            hall = slow.some_hall(chance)
            book = run(hall, slow.some_comings(hall, 40, chance))
            kept = Kept(hall)
            for tick, row in enumerate(book):
                kept.tick(row)
                if chance.random() < 0.1:
                    rank = chance.randrange(len(hall[0]))
                    low, high = kept.waiting(rank)
                    look = (tick, rank, low, min(99, max(low, high)))
                    self.assertIn(outcome(kept.look, look), (None, "NoLooks"))
                looks = kept.looks()
                self.assertEqual(kept.book(), book[:tick + 1])
                self.assertEqual(kept.how_many(), how_many(hall, kept.book(), looks))
                for rank in range(len(hall[0])):
                    self.assertEqual(kept.waiting(rank), waiting(hall, kept.book(), looks, rank, tick))


class Kinds(unittest.TestCase):
    def test_kinds(self):
        kept = kept_of(HALL, BOOK, ((3, 0, 0, 1),))
        for thing in (kept.book(), kept.looks(), kept.waiting(0), Kept(HALL).book(), Kept(HALL).looks()):
            self.assertIs(type(thing), tuple)
        self.assertIs(type(Kept(HALL).waiting(0)), tuple)
        for number in (kept.how_many(), Kept(HALL).how_many(), len(kept), *kept.waiting(1), *Kept(HALL).waiting(1)):
            self.assertIs(type(number), int)

    def test_each_method_is_the_class_s_own(self):
        for name in ("tick", "look", "back", "book", "looks", "how_many", "waiting", "__len__", "__eq__", "__init__"):
            self.assertIn(name, vars(Kept))

    def test_two_kept_halls_are_not_one(self):
        one, other = Kept(HALL), Kept(HALL)
        one.tick((0,))
        self.assertEqual((len(one), len(other)), (1, 0))
        self.assertRaises(errors.NothingLeft, other.back)


class Equal(unittest.TestCase):
    def check(self, one, other, is_equal):
        self.assertIs(one == other, is_equal)
        self.assertIs(other == one, is_equal)
        self.assertIs(one != other, not is_equal)

    def test_told_the_same(self):
        self.check(Kept(HALL), Kept((((2, 2), (1, 1)), ((0, 1),))), True)
        self.check(kept_of(HALL, BOOK), kept_of(HALL, BOOK), True)
        looks = ((0, 1, 0, 1), (3, 0, 0, 1))
        self.check(kept_of(HALL, BOOK, looks), kept_of(HALL, BOOK, looks[::-1]), True)
        kept = kept_of(HALL, BOOK[:1], looks[:1])
        for row in BOOK[1:]:
            kept.tick(row)
        kept.look(looks[1])
        self.check(kept, kept_of(HALL, BOOK, looks), True)
        self.check(kept, kept, True)

    def test_one_deed_behind(self):
        self.check(kept_of(HALL, BOOK), kept_of(HALL, BOOK[:3]), False)
        self.check(kept_of(HALL, BOOK, ((3, 0, 0, 1),)), kept_of(HALL, BOOK), False)
        self.check(Kept(HALL), kept_of(HALL, BOOK[:1]), False)

    def test_other_deeds(self):
        self.check(kept_of(HALL, ((0,),)), kept_of(HALL, ((1,),)), False)
        self.check(kept_of(HALL, BOOK, ((3, 0, 0, 1),)), kept_of(HALL, BOOK, ((3, 0, 0, 2),)), False)

    def test_other_halls(self):
        self.check(Kept(HALL), Kept(FIVE), False)
        self.check(kept_of((((5, 1),), ((0,),)), ((0,),)), kept_of((((5, 2),), ((0,),)), ((0,),)), False)
        self.check(kept_of((((4, 1),), ((0,),)), ((0,),)), kept_of((((5, 1),), ((0,),)), ((0,),)), False)

    def test_behind_back(self):
        kept = kept_of(HALL, BOOK)
        kept.back()
        self.check(kept, kept_of(HALL, BOOK[:3]), True)
        kept.tick(BOOK[3])
        self.check(kept, kept_of(HALL, BOOK), True)
        # What was refused, and how it came so far, makes no odds.
        self.assertRaises(errors.NoRow, kept.tick, (0,))
        self.check(kept, kept_of(HALL, BOOK), True)

    def test_nothing_else(self):
        for kept in (Kept(HALL), kept_of(HALL, BOOK)):
            for thing in slow.ANYTHING + (HALL, BOOK, (HALL, BOOK, ()), (HALL, (), ()), object()):
                self.check(kept, thing, False)


class Refused(unittest.TestCase):
    def check(self, refusal, do, *things):
        with self.assertRaises(errors.HallError) as caught:
            do(*things)
        self.assertIs(type(caught.exception), refusal)

    def test_no_hall(self):
        for thing in slow.with_one_changed(HALL):
            if slow.is_hall(thing):
                Kept(thing)
            else:
                self.check(errors.NoHall, Kept, thing)

    def test_no_row(self):
        hall = (((2, 2), (1, 1), (1, 1)), ((0, 1), (1, 2)))
        kept = kept_of(hall, ((0, 1),))
        before = told(kept, hall)
        for thing in list(slow.with_one_changed((None, 1))) + [(0, None), (1, None), (None, 0), (True, 1), (0, 1, 1)]:
            if slow.is_book(hall, ((0, 1), thing)):
                self.assertIn(outcome(kept.tick, thing), (None, "CantBe"))
                if len(kept) == 2:
                    kept.back()
            else:
                self.check(errors.NoRow, kept.tick, thing)
            self.assertEqual(told(kept, hall), before)

    def test_no_first_row(self):
        kept = Kept(HALL)
        for thing in slow.ANYTHING:
            if thing not in ((0,), (1,), (None,)) or type(thing) is not tuple or type(thing[0]) is bool:
                self.check(errors.NoRow, kept.tick, thing)
        self.assertEqual(kept, Kept(HALL))

    def test_rows_that_can_not_be(self):
        kept = Kept(FEW)
        for row in ((0, 0), (None, 0)):
            self.check(errors.CantBe, kept.tick, row)
        kept.tick((0, None))
        # A look ahead bars what else could be.
        kept = kept_of(FIVE, ((0,),), ((0, 0, 1, 4),))
        self.check(errors.CantBe, kept.tick, (None,))
        kept.back()
        kept.tick((None,))

    def test_no_look(self):
        kept = Kept(HALL)
        for thing in slow.ANYTHING + ((0, 0, 0, 0), (0, 0, 0, 99)):
            self.check(errors.NoLooks, kept.look, thing)
        kept = kept_of(HALL, BOOK)
        before = told(kept, HALL)
        for thing in list(slow.with_one_changed((3, 0, 0, 1))) + [(3, 0, True, 1), (4, 0, 0, 1), (3, 2, 0, 1)]:
            if slow.are_looks(HALL, BOOK, (thing,)):
                self.assertIn(outcome(kept.look, thing), (None, "CantBe"))
                if kept.looks():
                    kept.back()
            else:
                self.check(errors.NoLooks, kept.look, thing)
            self.assertEqual(told(kept, HALL), before)

    def test_looks_that_can_not_be(self):
        kept = kept_of(HALL, BOOK)
        self.check(errors.CantBe, kept.look, (0, 0, 1, 1))
        self.check(errors.CantBe, kept.look, (3, 0, 2, 99))
        kept.look((3, 0, 0, 0))
        self.check(errors.CantBe, kept.look, (3, 0, 1, 1))
        self.assertEqual(kept.looks(), ((3, 0, 0, 0),))

    def test_no_rank(self):
        for kept in (Kept(HALL), kept_of(HALL, BOOK)):
            for thing in slow.ANYTHING:
                if slow.is_number(thing, 0, 1):
                    kept.waiting(thing)
                else:
                    self.check(errors.NoRank, kept.waiting, thing)

    def test_nothing_handed_in_is_changed(self):
        kept = kept_of(HALL, BOOK)
        row, look, rank, hall = [0], [3, 0, 0, 1], [0], [[[2, 2]], [[0]]]
        self.check(errors.NoRow, kept.tick, row)
        self.check(errors.NoLooks, kept.look, look)
        self.check(errors.NoRank, kept.waiting, rank)
        self.check(errors.NoHall, Kept, hall)
        self.assertEqual((row, look, rank, hall), ([0], [3, 0, 0, 1], [0], [[[2, 2]], [[0]]]))


if __name__ == "__main__":
    unittest.main()
