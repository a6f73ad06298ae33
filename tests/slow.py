"""What the document says, worked out the slow way: folk by folk, and by trying all comings of a small hall.

Nothing of the package is used here, so that the answers are found twice by different ways.
"""

from functools import lru_cache
from itertools import permutations, product
from random import Random


# What is a hall, a book, looks


def is_number(thing, low, high):
    return type(thing) is int and low <= thing <= high


def is_tuple(thing, least, most):
    return type(thing) is tuple and least <= len(thing) <= most


def goes_up(things):
    return all(things[place] < things[place + 1] for place in range(len(things) - 1))


def is_hall(thing):
    if not is_tuple(thing, 2, 2):
        return False
    ranks, desks = thing
    if not is_tuple(ranks, 1, 4) or not is_tuple(desks, 1, 3):
        return False
    for pair in ranks:
        if not is_tuple(pair, 2, 2) or not is_number(pair[0], 1, 5) or not is_number(pair[1], 1, 10):
            return False
    for desk in desks:
        if not is_tuple(desk, 1, 4) or not all(is_number(rank, 0, len(ranks) - 1) for rank in desk):
            return False
        if not goes_up(desk):
            return False
    return True


def is_book(hall, thing):
    ranks, desks = hall
    if not is_tuple(thing, 1, 40):
        return False
    still_there = [0] * len(desks)
    for row in thing:
        if not is_tuple(row, len(desks), len(desks)):
            return False
        for desk, one in enumerate(row):
            if one is None:
                continue
            if not is_number(one, 0, len(ranks) - 1) or one not in desks[desk] or still_there[desk] > 0:
                return False
            still_there[desk] = ranks[one][1]
        still_there = [max(0, ticks - 1) for ticks in still_there]
    return True


def are_looks(hall, book, thing):
    if not is_tuple(thing, 0, 6):
        return False
    for look in thing:
        if not is_tuple(look, 4, 4) or not is_number(look[0], 0, len(book) - 1):
            return False
        if not is_number(look[1], 0, len(hall[0]) - 1) or not is_number(look[3], 0, 99):
            return False
        if not is_number(look[2], 0, look[3]):
            return False
    return goes_up(thing)


# Stories: comings, told folk by folk


class Story:
    """Comings of a hall; of each rank at which tick each one came and was taken; the book; who waited when."""

    def __init__(self, hall, comings, order=None):
        ranks, desks = hall
        order = range(len(ranks)) if order is None else order
        self.comings = comings
        self.came = [[] for _ in ranks]
        self.gone = [[] for _ in ranks]
        self.left = []
        still_there = [0] * len(desks)
        book = []
        for tick, row in enumerate(comings):
            for rank, many in enumerate(row):
                self.came[rank] += [tick] * many
            took = [None] * len(desks)
            for desk, own in enumerate(desks):
                for rank in order:
                    waits = len(self.came[rank]) > len(self.gone[rank])
                    if still_there[desk] == 0 and rank in own and waits and took[desk] is None:
                        took[desk] = rank
                        self.gone[rank].append(tick)
                        still_there[desk] = ranks[rank][1]
            still_there = [max(0, ticks - 1) for ticks in still_there]
            book.append(tuple(took))
            self.left.append([len(came) - len(gone) for came, gone in zip(self.came, self.gone)])
        self.book = tuple(book)

    def is_so(self, looks):
        return all(least <= self.left[tick][rank] <= most for tick, rank, least, most in looks)

    def had_come(self, rank, tick):
        return sum(row[rank] for row in self.comings[:tick + 1])

    def row(self, rank):
        return tuple(row[rank] for row in self.comings)


def rows_of_one_tick(hall):
    return list(product(*[range(most + 1) for most, _ in hall[0]]))


@lru_cache(maxsize=None)
def books_had(hall, ticks, order=None):
    """Of each book that can be, all its stories."""
    found = {}
    for comings in product(rows_of_one_tick(hall), repeat=ticks):
        story = Story(hall, comings, order)
        found.setdefault(story.book, []).append(story)
    return found


@lru_cache(maxsize=None)
def all_books(hall, ticks):
    """All books of so many ticks, those that can't be too."""
    rows = list(product(*[(None,) + desk for desk in hall[1]]))
    return [book for book in product(rows, repeat=ticks) if is_book(hall, book)]


def stories(hall, book, looks):
    return [story for story in books_had(hall, len(book)).get(book, []) if story.is_so(looks)]


# The answers


def both_ends(numbers):
    return (min(numbers), max(numbers))


def stairs(hall, book, looks, rank):
    told = stories(hall, book, looks)
    if not told:
        return None
    return [both_ends([story.had_come(rank, tick) for story in told]) for tick in range(len(book))]


def first_bar(hall, book):
    for tick in range(len(book)):
        if not stories(hall, book[:tick + 1], ()):
            return tick
    return None


def passed_over(hall, book, rank):
    """Pairs (tick, as many as were taken ahead of the turn of a free desk that passed the rank over)."""
    found = []
    many = 0
    still_there = [0] * len(hall[1])
    for tick, row in enumerate(book):
        for desk, own in enumerate(hall[1]):
            one = row[desk]
            if still_there[desk] == 0 and rank in own and (one is None or own.index(one) > own.index(rank)):
                found.append((tick, many))
            many += one == rank
            if one is not None:
                still_there[desk] = hall[0][one][1]
        still_there = [max(0, ticks - 1) for ticks in still_there]
    return found


def bars(hall, book, looks):
    """All bars, by the document's words."""
    found = []
    for rank, (most, _) in enumerate(hall[0]):
        def gone(tick):
            return sum(one == rank for row in book[:tick + 1] for one in row)

        least_told = [(tick, gone(tick)) for tick in range(len(book))]
        least_told += [(tick, gone(tick) + least) for tick, one, least, _ in looks if one == rank]
        most_told = [(-1, 0)] + passed_over(hall, book, rank)
        most_told += [(tick, gone(tick) + many) for tick, one, _, many in looks if one == rank]
        for one, at_most in most_told:
            for other, at_least in least_told:
                if at_least > at_most + (most * (other - one) if other > one else 0):
                    found.append((rank, one, other))
    return found


def rows_had(hall, book, looks, rank):
    return sorted({story.row(rank) for story in stories(hall, book, looks)})


def came(hall, book, looks, rank, comer):
    told = stories(hall, book, looks)
    if not told:
        return None
    ticks = [story.came[rank][comer - 1] if comer <= len(story.came[rank]) else None for story in told]
    earliest = min([tick for tick in ticks if tick is not None], default=None)
    return (earliest, None if None in ticks else max(ticks))


def taken(book, rank, comer):
    ticks = [tick for tick, row in enumerate(book) for one in row if one == rank]
    return ticks[comer - 1] if comer <= len(ticks) else None


def waits(hall, book, looks, rank):
    told = stories(hall, book, looks)
    if not told:
        return None
    return both_ends([
        sum(gone - came for came, gone in zip(story.came[rank], story.gone[rank])) for story in told
    ])


def waiting(hall, book, looks, rank, tick):
    told = stories(hall, book, looks)
    return both_ends([story.left[tick][rank] for story in told]) if told else None


def because(hall, book, looks, rank, other):
    told = stories(hall, book, looks)
    if not told:
        return None
    return both_ends([sum(story.left[tick][rank] for tick in story.gone[other]) for story in told])


def none_first(row):
    return [(one is not None, one or 0) for one in row]


def nexts(hall, book, looks):
    found = {}
    for story in stories(hall, book, looks):
        for row in rows_of_one_tick(hall):
            taken_next = Story(hall, story.comings + (row,)).book[-1]
            found[taken_next] = found.get(taken_next, 0) + 1
    return [(row, found[row]) for row in sorted(found, key=none_first)]


def best_look(hall, book, looks):
    told = stories(hall, book, looks)
    if len(told) < 2:
        return None
    best = None
    for tick in range(len(book)):
        for rank in range(len(hall[0])):
            answers = [story.left[tick][rank] for story in told]
            worst = max(answers.count(answer) for answer in set(answers))
            if best is None or worst < best[2]:
                best = (tick, rank, worst)
    return best


def changed(book, tick, desk, one):
    row = book[tick][:desk] + (one,) + book[tick][desk + 1:]
    return book[:tick] + (row,) + book[tick + 1:]


def mends(hall, book):
    found = []
    for tick, row in enumerate(book):
        for desk, own in enumerate(hall[1]):
            for one in (None,) + own:
                other = changed(book, tick, desk, one)
                if other != book and is_book(hall, other) and stories(hall, other, ()):
                    found.append((tick, desk, one))
    return found


def with_stay(hall, rank, stay):
    ranks, desks = hall
    return ranks[:rank] + ((ranks[rank][0], stay),) + ranks[rank + 1:], desks


def stays(hall, book, rank):
    found = []
    for stay in range(1, 11):
        # All stays that last to the end of the book are told the same.
        other = with_stay(hall, rank, min(stay, len(book)))
        if is_book(other, book) and stories(other, book, ()):
            found.append(stay)
    return found


def orders(hall, book):
    found = []
    for order in permutations(range(len(hall[0]))):
        many = len(books_had(hall, len(book), order).get(book, []))
        if many:
            found.append((order, many))
    return found


def row_does(hall, book, rank, behind, row):
    """Whether a row of comings of the rank does, where these ranks alone stand behind it."""
    waits = 0
    still_there = [0] * len(hall[1])
    for come, taken_then in zip(row, book):
        waits += come
        for desk, own in enumerate(hall[1]):
            one = taken_then[desk]
            if one == rank:
                if waits == 0:
                    return False
                waits -= 1
            elif still_there[desk] == 0 and rank in own and (one is None or one in behind) and waits:
                return False
            if one is not None:
                still_there[desk] = hall[0][one][1]
        still_there = [max(0, ticks - 1) for ticks in still_there]
    return True


def must_be_ahead(hall, book):
    if not orders(hall, book):
        return None
    found = []
    for one, other in permutations(range(len(hall[0])), 2):
        rows = product(range(hall[0][other][0] + 1), repeat=len(book))
        if not any(row_does(hall, book, other, (one,), row) for row in rows):
            found.append((one, other))
    return found


def put_first(hall, rank):
    return (rank,) + tuple(other for other in range(len(hall[0])) if other != rank)


def first_taken(hall, book, looks, rank, comer):
    told = stories(hall, book, looks)
    if not told:
        return None
    ticks = []
    for story in told:
        gone = Story(hall, story.comings, put_first(hall, rank)).gone[rank]
        ticks.append(gone[comer - 1] if comer <= len(gone) else None)
    earliest = min([tick for tick in ticks if tick is not None], default=None)
    return (earliest, None if None in ticks else max(ticks))


# Cases: small halls with books and looks


SMALL = (
    # Of one rank: stays of 1, 2 and longer than the book; a most of 1, 2 and 5.
    ((((1, 1),), ((0,),)), 4),
    ((((2, 2),), ((0,),)), 4),
    ((((5, 1),), ((0,),)), 3),
    ((((5, 10),), ((0,),)), 3),
    ((((3, 1),), ((0,), (0,), (0,))), 3),
    ((((1, 2),), ((0,), (0,))), 4),
    # Of two: one desk for both, desks that begin with either, a rank that no desk takes.
    ((((2, 2), (1, 1)), ((0, 1),)), 4),
    ((((1, 1), (2, 3)), ((0, 1), (1,))), 3),
    ((((1, 2), (1, 1)), ((1,), (0, 1))), 4),
    ((((1, 1), (2, 2)), ((0, 1), (0, 1))), 3),
    ((((1, 1), (1, 1)), ((0,), (1,))), 3),
    ((((1, 3), (2, 1)), ((0,),)), 3),
    ((((1, 1), (1, 1)), ((1,), (0,), (0, 1))), 3),
    # Of three and four.
    ((((1, 1), (1, 2), (1, 1)), ((0, 2), (1, 2))), 3),
    ((((1, 2), (1, 1), (1, 1)), ((0, 1, 2),)), 3),
    ((((1, 1), (1, 2), (1, 1), (1, 3)), ((0, 1, 2, 3), (1, 3))), 2),
    ((((1, 1), (1, 1), (1, 1), (1, 1)), ((0, 3), (1, 2), (0, 1, 2, 3))), 2),
)


# Halls in which all desks take all ranks, and all stay as long.
ALIKE = (
    ((((2, 1),), ((0,),)), 4),
    ((((2, 2),), ((0,), (0,))), 4),
    ((((5, 10),), ((0,), (0,), (0,))), 3),
    ((((2, 1), (1, 1)), ((0, 1),)), 4),
    ((((1, 2), (2, 2)), ((0, 1),)), 4),
    ((((1, 2), (2, 2)), ((0, 1), (0, 1))), 4),
    ((((2, 3), (2, 3)), ((0, 1), (0, 1), (0, 1))), 3),
    ((((1, 1), (2, 1), (1, 1)), ((0, 1, 2),)), 3),
    ((((1, 2), (1, 2), (1, 2)), ((0, 1, 2), (0, 1, 2))), 3),
    ((((1, 1), (1, 1), (1, 1), (1, 1)), ((0, 1, 2, 3), (0, 1, 2, 3))), 2),
)


def some(things, many, chance):
    """No more than so many of the things."""
    return things if len(things) <= many else chance.sample(things, many)


def some_looks(hall, book, chance):
    """Looks that may or may not be so."""
    found = set()
    for _ in range(chance.randrange(1, 7)):
        least = chance.choice((0, 0, 0, 1, 1, 2, 3))
        most = least + chance.choice((0, 0, 1, 2, 5))
        found.add((chance.randrange(len(book)), chance.randrange(len(hall[0])), least, most))
    return tuple(sorted(found))


def true_looks(hall, story, chance):
    """Looks that are so in the story."""
    found = set()
    for _ in range(chance.randrange(1, 4)):
        tick = chance.randrange(len(story.comings))
        rank = chance.randrange(len(hall[0]))
        left = story.left[tick][rank]
        least = max(0, left - chance.choice((0, 0, 1, 2)))
        found.add((tick, rank, least, left + chance.choice((0, 0, 1, 3))))
    return tuple(sorted(found))


@lru_cache(maxsize=None)
def cases(many=24, halls=SMALL):
    """Triples (hall, book, looks) of small halls; of each hall so many books that can be, and any others."""
    chance = Random(1)
    found = []
    for hall, most_ticks in halls:
        for ticks in (1, most_ticks):
            had = books_had(hall, ticks)
            for book in some(sorted(had, key=lambda book: [none_first(row) for row in book]), many, chance):
                found.append((hall, book, ()))
                found.append((hall, book, true_looks(hall, chance.choice(had[book]), chance)))
                found.append((hall, book, some_looks(hall, book, chance)))
            for book in some(all_books(hall, ticks), many, chance):
                found.append((hall, book, ()))
                found.append((hall, book, some_looks(hall, book, chance)))
    return found


# Long books of any halls


def bent(hall, book, chance):
    """The book with one taking changed, such that it is one of the hall still; the same if none can be."""
    others = []
    for tick in range(len(book)):
        for desk, own in enumerate(hall[1]):
            for one in (None,) + own:
                others.append(changed(book, tick, desk, one))
    others = [other for other in others if other != book and is_book(hall, other)]
    return chance.choice(others) if others else book


def some_hall(chance):
    ranks = tuple((chance.randrange(1, 6), chance.randrange(1, 11)) for _ in range(chance.randrange(1, 5)))
    desks = []
    for _ in range(chance.randrange(1, 4)):
        desks.append(tuple(sorted(chance.sample(range(len(ranks)), chance.randrange(1, len(ranks) + 1)))))
    return ranks, tuple(desks)


def some_comings(hall, ticks, chance):
    many = chance.choice((2, 4, 8))
    return tuple(
        tuple(chance.randrange(most + 1) if chance.randrange(many) == 0 else 0 for most, _ in hall[0])
        for _ in range(ticks)
    )


# Anything


def nested(kind, wide, deep):
    """A thing as wide and deep as asked for; it holds itself by halves, so that it takes no room."""
    thing = kind([0] * wide)
    for _ in range(deep - 1):
        thing = kind([thing] * wide)
    return thing


ANYTHING = (
    None, True, False, 0, 1, 2, 3, 6, 11, 40, 41, 100, -1, -2, 10 ** 40 - 1, 1 - 10 ** 40,
    "", "0", "01", "a" * 100,
    (), [], (0,), [0], (1,), (0, 1), [0, 1], (1, 0), (0, 0), (True,), (False,), (None,), ("",), ((),), ([],),
    (1, 1), [1, 1], (True, 1), (1, True), (1, 1, 1), (0, 0, 0, 0), [0, 0, 0, 0], (True, 0, 0, 0),
    ((0,),), [(0,)], ([0],), ((None,),), ((1, 1),), (((1, 1),), ((0,),)), [((1, 1),), ((0,),)],
    (0,) * 200, [0] * 200, ((0,),) * 200, ((None,),) * 41, (None,) * 200,
    nested(tuple, 200, 10), nested(list, 200, 10), nested(tuple, 1, 10), nested(tuple, 2, 10),
)


def with_one_changed(thing):
    """The thing with anything in the place of each of its parts, with each part left out, and with each twice."""
    yield from ANYTHING
    if type(thing) is not tuple:
        return
    yield list(thing)
    for place, part in enumerate(thing):
        ahead, behind = thing[:place], thing[place + 1:]
        yield ahead + behind
        yield ahead + (part, part) + behind
        for other in with_one_changed(part):
            yield ahead + (other,) + behind
