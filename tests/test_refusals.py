"""[2] and the interface: which argument is refused by which refusal, and in which order.

Of NotAlike, which first_taken alone tells, test_first asks.
"""

import unittest

import slow
from hallback import errors
from hallback.comers import because, came, taken, waiting, waits
from hallback.halls import are_looks, is_book
from hallback.mends import mends, stays
from hallback.nexts import best_look, nexts
from hallback.orders import must_be_ahead, orders
from hallback.rows import how_many, how_many_of, number_of, row_at
from hallback.runs import is_story, run
from hallback.stairs import bar, can_be, first_bar, is_bar, stairs

HALL = (((2, 2), (1, 1)), ((0, 1),))
BOOK = ((0,), (None,), (1,), (0,))
LOOKS = ((3, 0, 0, 0),)
COMINGS = ((1, 1), (0, 0), (0, 1), (2, 0))

FUNCTIONS = (
    (is_book, ("hall", "thing")),
    (are_looks, ("hall", "book", "thing")),
    (run, ("hall", "comings")),
    (is_story, ("hall", "book", "looks", "thing")),
    (stairs, ("hall", "book", "looks", "rank")),
    (can_be, ("hall", "book", "looks")),
    (first_bar, ("hall", "book")),
    (bar, ("hall", "book", "looks")),
    (is_bar, ("hall", "book", "looks", "thing")),
    (how_many, ("hall", "book", "looks")),
    (how_many_of, ("hall", "book", "looks", "rank")),
    (row_at, ("hall", "book", "looks", "rank", "number")),
    (number_of, ("hall", "book", "looks", "rank", "row")),
    (came, ("hall", "book", "looks", "rank", "comer")),
    (taken, ("hall", "book", "rank", "comer")),
    (waits, ("hall", "book", "looks", "rank")),
    (waiting, ("hall", "book", "looks", "rank", "tick")),
    (because, ("hall", "book", "looks", "rank", "other")),
    (nexts, ("hall", "book", "looks")),
    (best_look, ("hall", "book", "looks")),
    (mends, ("hall", "book")),
    (stays, ("hall", "book", "rank")),
    (orders, ("hall", "book")),
    (must_be_ahead, ("hall", "book")),
)

GOOD = {
    "hall": HALL, "book": BOOK, "looks": LOOKS, "rank": 0, "other": 1, "comings": COMINGS, "number": 0,
    "row": (1, 0, 0, 1), "comer": 1, "tick": 3, "thing": None,
}

REFUSALS = {
    "hall": errors.NoHall, "book": errors.NoBook, "looks": errors.NoLooks, "rank": errors.NoRank,
    "other": errors.NoRank, "comings": errors.NoComings, "number": errors.NoNumber, "row": errors.NoComings,
    "comer": errors.NoComer, "tick": errors.NoTick,
}

# Each looks well at first sight; the truths stand where a number would do.
BAD = {
    "hall": ((((2, 2), (1, 1)), ((1, 0),)), (((2, 2), (True, 1)), ((0, 1),)), (((2, 2), (1, 1)), ()), [HALL]),
    "book": (((0,), (0,)), ((0,), (None,), (True,)), (), ((2,),), [(0,)], ((None,),) * 41),
    "looks": (((4, 0, 0, 0),), ((0, 2, 0, 0),), ((1, 0, 0, 0), (0, 0, 0, 0)), ((0, 0, False, 0),), []),
    "rank": (2, -1, True, False, None, (0,), "0"),
    "other": (2, -1, True, False, None, (1,), "1"),
    "comings": (((3, 0),), ((0, 2),), ((0,),), (), ((True, 0),), [(0, 0)], ((0, 0),) * 41),
    "number": (1, -1, True, False, None, (0,), "0"),
    "row": ((1, 0, 0, 2), (0, 0, 0, 0), (1, 0, 0), (True, 0, 0, 1), [1, 0, 0, 1], None, 0),
    "comer": (0, -1, True, False, None, (1,), "1"),
    "tick": (4, -1, True, False, None, (3,), "3"),
}


def is_good(name, thing):
    """Whether anything does for this argument, all else as it stands in GOOD."""
    if name == "hall":
        return slow.is_hall(thing)
    if name == "book":
        return slow.is_book(HALL, thing)
    if name == "looks":
        return slow.are_looks(HALL, BOOK, thing)
    if name == "comer":
        return slow.is_number(thing, 1, 10 ** 50)
    if name in ("comings", "row"):
        # None of what stands in ANYTHING is a row of four ticks, or rows of two ranks, but these.
        return name == "comings" and thing in (((1, 1),),)
    return slow.is_number(thing, 0, {"rank": 1, "other": 1, "number": 0, "tick": 3}[name])


def good_arguments(names):
    return [GOOD[name] for name in names]


class Refusals(unittest.TestCase):
    def check(self, function, arguments, refusal):
        with self.assertRaises(errors.HallError) as caught:
            function(*arguments)
        self.assertIs(type(caught.exception), refusal, function.__name__)

    def test_what_is_good_is_not_refused(self):
        for function, names in FUNCTIONS:
            function(*good_arguments(names))

    def test_each_alone(self):
        for function, names in FUNCTIONS:
            for place, name in enumerate(names):
                for bad in BAD.get(name, ()):
                    arguments = good_arguments(names)
                    arguments[place] = bad
                    self.check(function, arguments, REFUSALS[name])

    def test_the_one_told_first_goes_first(self):
        for function, names in FUNCTIONS:
            for place, name in enumerate(names):
                for behind in range(place + 1, len(names)):
                    for bad in BAD.get(name, ()):
                        for worse in BAD.get(names[behind], ()):
                            arguments = good_arguments(names)
                            arguments[place] = bad
                            arguments[behind] = worse
                            self.check(function, arguments, REFUSALS[name])

    def test_all_from_one_on(self):
        for function, names in FUNCTIONS:
            for place, name in enumerate(names):
                if name in BAD:
                    arguments = [
                        BAD[one][0] if at >= place and one in BAD else GOOD[one] for at, one in enumerate(names)
                    ]
                    self.check(function, arguments, REFUSALS[name])

    def test_anything(self):
        for function, names in FUNCTIONS:
            for place, name in enumerate(names):
                if name not in BAD:
                    continue
                for thing in slow.ANYTHING:
                    arguments = good_arguments(names)
                    arguments[place] = thing
                    if name == "hall" and slow.is_hall(thing):
                        continue
                    if name == "book" and slow.is_book(HALL, thing):
                        continue
                    if is_good(name, thing):
                        function(*arguments)
                    else:
                        self.check(function, arguments, REFUSALS[name])

    def test_things_of_a_bad_hall_are_refused_by_the_hall(self):
        for function, names in FUNCTIONS:
            for thing in slow.ANYTHING:
                self.check(function, [[HALL]] + [thing] * (len(names) - 1), errors.NoHall)

    def test_a_book_is_one_of_the_hall(self):
        other = (((2, 3), (1, 1)), ((0, 1),))
        for function, names in FUNCTIONS:
            if "book" in names:
                self.check(function, [other] + good_arguments(names)[1:], errors.NoBook)

    def test_looks_are_such_of_the_book(self):
        for function, names in FUNCTIONS:
            if "looks" in names:
                self.check(function, [HALL, BOOK[:3]] + good_arguments(names)[2:], errors.NoLooks)

    def test_refusals_where_no_comings_do(self):
        looks = ((0, 0, 1, 1),)
        for function, names in FUNCTIONS:
            if "looks" not in names:
                continue
            for place, name in enumerate(names):
                for bad in BAD.get(name, ()):
                    arguments = [looks if one == "looks" else GOOD[one] for one in names]
                    arguments[place] = bad
                    self.check(function, arguments, REFUSALS[name])

    def test_refusals_change_nothing(self):
        for function, names in FUNCTIONS:
            before = function(*good_arguments(names))
            for place, name in enumerate(names):
                for bad in BAD.get(name, ()):
                    arguments = good_arguments(names)
                    arguments[place] = bad
                    self.check(function, arguments, REFUSALS[name])
            self.assertEqual(function(*good_arguments(names)), before)

    def test_refused_things_are_not_changed(self):
        thing = [[[1, 1], [2, 2]], [[0], [1, 0]]]
        for function, names in FUNCTIONS:
            for place, name in enumerate(names):
                if name in BAD:
                    arguments = good_arguments(names)
                    arguments[place] = thing
                    self.check(function, arguments, REFUSALS[name])
        self.assertEqual(thing, [[[1, 1], [2, 2]], [[0], [1, 0]]])


if __name__ == "__main__":
    unittest.main()
