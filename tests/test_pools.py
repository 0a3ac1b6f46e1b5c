"""Promises 2, 3 and 15: a pool, its deeds, what it refuses, and the book that it tells."""

import copy
import itertools
import random
import unittest

from poolbook.errors import Full, NoColumn, NoColumns, NoHouse, NoKey, NoName, NoRow, PoolError, Same, Taken
from poolbook.pools import Pool
from poolbook.tables import one_table
from poolbook.ties import is_book, things
from poolbook.turns import turned
from samples import ANYTHING, BOOK, call, calls, chance_book, pairs, rules, spoilt, stirred


def deeds_of(made):
    """The deeds that make a book: lists of (name of the deed, what is handed in), those of a list in any order."""
    houses, likes, keys, ties, cuts = made
    comes = [("come", (name, columns)) for name, (columns, _) in houses]
    puts = [("put", (name, number, row)) for name, (_, rows) in houses for number, row in rows]
    told = [("like", pair) for pair in likes] + [("key", (key,)) for key in keys]
    links = [("tie", pair) for pair in ties] + [("cut", pair) for pair in cuts]
    return comes, puts, told, links


def do(pool, deed):
    """A deed is done; it tells nothing."""
    name, handed = deed
    found = getattr(pool, name)(*handed)
    assert found is None, found


def pool_of(made):
    """A pool by which a book came about."""
    pool = Pool()
    for deeds in deeds_of(made):
        for deed in deeds:
            do(pool, deed)
    return pool


def stirred_deeds(chance, made):
    """The deeds that make a book in an order made by chance: each comes as soon as what it needs is there."""
    waiting = [deed for deeds in deeds_of(made) for deed in deeds]
    chance.shuffle(waiting)
    pool, order = Pool(), []
    while waiting:
        for deed in list(waiting):
            name, handed = deed
            if name in ("like", "tie", "cut") and chance.random() < 0.5:
                deed = (name, handed[::-1])
            try:
                do(pool, deed)
            except (NoHouse, NoColumn, NoRow, NoKey):
                continue
            waiting.remove((name, handed))
            order.append(deed)
    return pool, order


def rows_of(*numbers):
    """Rows with these ids and None as their only worth."""
    return tuple([(number, (None,)) for number in numbers])


class Deeds(unittest.TestCase):
    def test_a_house_comes(self):
        pool = Pool()
        self.assertIsNone(pool.come("oak", ("mark", "size")))
        self.assertEqual(pool.book(), ((("oak", (("mark", "size"), ())),), (), (), (), ()))
        pool.come("elm", ("code",))
        self.assertEqual(pool.book()[0], (("elm", (("code",), ())), ("oak", (("mark", "size"), ()))))

    def test_rows_are_put_in(self):
        pool = Pool()
        pool.come("elm", ("code", "size"))
        self.assertIsNone(pool.put("elm", 10, (1, None)))
        pool.put("elm", 2, ("red", -10 ** 6))
        pool.put("elm", 999, (None, None))
        pool.put("elm", 0, (10 ** 6, "zzzzzzzz"))
        self.assertEqual(pool.book()[0], (("elm", (("code", "size"), (
            (0, (10 ** 6, "zzzzzzzz")), (2, ("red", -10 ** 6)), (10, (1, None)), (999, (None, None))))),))

    def test_a_row_in_the_place_of_another_one(self):
        pool = pool_of(BOOK)
        self.assertIsNone(pool.put("elm", 0, (7, "green")))
        houses, *others = pool.book()
        self.assertEqual(houses, (("elm", (("code", "size"), ((0, (7, "green")), (1, (0, None))))), BOOK[0][1]))
        # Its ties and cuts stay.
        self.assertEqual(tuple(others), BOOK[1:])
        pool.put("elm", 1, (None, None))
        pool.put("oak", 1, (None, None, None))
        self.assertEqual(pool.book()[1:], BOOK[1:])

    def test_a_row_is_taken_out_with_its_ties_and_cuts(self):
        pool = pool_of(BOOK)
        self.assertIsNone(pool.out("elm", 1))
        self.assertEqual(pool.book(), ((("elm", (("code", "size"), ((0, (1, "red")),))), BOOK[0][1]), BOOK[1], BOOK[2],
                                       pairs("elm.0-oak.7"), ()))
        pool.out("oak", 7)
        self.assertEqual(pool.book()[3:], ((), ()))
        pool = pool_of(BOOK)
        pool.out("oak", 1)
        self.assertEqual(pool.book()[3:], (pairs("elm.0-oak.7"), pairs("elm.1-oak.0")))
        pool.out("oak", 0)
        self.assertEqual(pool.book()[3:], (pairs("elm.0-oak.7"), ()))

    def test_ties_do_not_come_back_with_a_row(self):
        pool = pool_of(BOOK)
        pool.out("elm", 1)
        pool.put("elm", 1, (0, None))
        self.assertEqual(pool.book(), BOOK[:3] + (pairs("elm.0-oak.7"), ()))
        # So they may be told anew.
        for deed in (pool.tie, pool.cut):
            deed(("elm", 1), ("oak", 1))
        pool.cut(("oak", 0), ("elm", 1))
        self.assertEqual(pool.book(), BOOK)

    def test_likes_ties_and_cuts_in_either_order_of_both(self):
        for turn in (1, -1):
            pool = Pool()
            for deeds in deeds_of(BOOK):
                for name, handed in deeds:
                    do(pool, (name, handed[::turn] if name in ("like", "tie", "cut") else handed))
            self.assertEqual(pool.book(), BOOK)

    def test_a_pair_may_be_a_tie_and_a_cut(self):
        pool = pool_of((BOOK[0], (), (), (), ()))
        pool.tie(("elm", 0), ("oak", 0))
        pool.cut(("elm", 0), ("oak", 0))
        self.assertEqual(pool.book()[3:], (pairs("elm.0-oak.0"), pairs("elm.0-oak.0")))

    def test_what_is_told_is_a_book(self):
        pool = Pool()
        for deeds in deeds_of(BOOK):
            for deed in deeds:
                do(pool, deed)
                self.assertTrue(is_book(pool.book()))
        self.assertEqual(pool.book(), BOOK)

    def test_an_odd_book_is_told_too(self):
        likes, ties = pairs("elm.code-oak.mark elm.code-oak.size"), pairs("elm.0-oak.0 elm.0-oak.1")
        pool = pool_of((BOOK[0], likes, (), ties, ()))
        self.assertEqual(things(pool.book())[0], calls("elm.0 oak.0 oak.1"))

    def test_the_book_that_was_told_does_not_change(self):
        pool = pool_of(BOOK)
        told = pool.book()
        kept = copy.deepcopy(told)
        pool.put("elm", 0, (5, 5))
        pool.out("oak", 1)
        pool.come("ash", ("a",))
        pool.like(("ash", "a"), ("elm", "code"))
        pool.key((("ash", "a"),))
        self.assertEqual((told, told), (kept, BOOK))
        self.assertNotEqual(pool.book(), told)

    def test_the_same_question_has_the_same_answer(self):
        pool = pool_of(BOOK)
        self.assertEqual(pool.book(), pool.book())

    def test_pools_share_nothing(self):
        one, other = Pool(), Pool()
        one.come("elm", ("a",))
        with self.assertRaises(NoHouse):
            other.book()


class Orders(unittest.TestCase):
    def test_houses_and_rows_in_any_order(self):
        houses = (("ash", (("a",), rows_of(1, 2))), ("elm", (("a",), rows_of(3))), ("oak", (("b",), rows_of(0))))
        comes, puts, _, _ = deeds_of((houses, (), (), (), ()))
        for order in itertools.permutations(comes):
            for more in itertools.permutations(puts):
                pool = Pool()
                for deed in order + more:
                    do(pool, deed)
                self.assertEqual(pool.book(), (houses, (), (), (), ()))

    def test_likes_keys_ties_and_cuts_in_any_order(self):
        comes, puts, told, links = deeds_of(BOOK)
        for order in itertools.permutations(told):
            for more in itertools.permutations(links):
                pool = Pool()
                for deed in tuple(comes) + tuple(puts) + more + order:
                    do(pool, deed)
                self.assertEqual(pool.book(), BOOK)

    def test_books_made_by_chance(self):
        chance = random.Random(41)
        tables = 0
        for _ in range(250):
            made = chance_book(chance)
            straight = pool_of(made)
            self.assertEqual(straight.book(), made)
            self.assertTrue(is_book(straight.book()))
            pool, order = stirred_deeds(chance, made)
            self.assertEqual(pool.book(), made, order)
            self.assertTrue(pool == straight)
            told = rules(" ".join([name for name, _ in made[0]]))
            try:
                expected = one_table(made, told)
            except PoolError:
                continue
            self.assertEqual(one_table(pool.book(), told), expected)
            tables += 1
        self.assertTrue(tables > 50, tables)

    def test_rows_that_come_and_go_leave_nothing_behind(self):
        chance = random.Random(42)
        for _ in range(150):
            made = chance_book(chance)
            pool, _ = stirred_deeds(chance, made)
            name, (columns, rows) = chance.choice(made[0])
            pool.put(name, 500, tuple([3 for _ in columns]))
            others = [(other, number) for other, (_, own) in made[0] for number, _ in own if other != name]
            for row in others[:2]:
                pool.tie((name, 500), row)
                pool.cut(row, (name, 500))
            self.assertEqual(pool.book() == made, False)
            pool.out(name, 500)
            self.assertEqual(pool.book(), made)

    def test_a_row_turns_only_things_that_hold_it_or_held_it(self):
        chance = random.Random(43)
        seen = 0
        for _ in range(400):
            made = chance_book(chance)
            pool = pool_of(made)
            name, (columns, _) = chance.choice(made[0])
            number = chance.randrange(4)
            pool.put(name, number, tuple([chance.choice((0, 1, "x", None)) for _ in columns]))
            told = rules(" ".join([own for own, _ in made[0]]))
            try:
                found = turned(made, told, pool.book(), told)
            except PoolError:
                continue
            holders = [thing for thing in things(made) + things(pool.book()) if (name, number) in thing]
            for thing, _, _ in found:
                self.assertTrue([holder for holder in holders if set(thing) <= set(holder)])
                seen += 1
        self.assertTrue(seen > 100, seen)


class Equal(unittest.TestCase):
    def alike(self, one, other):
        self.assertIs(one == other, True)
        self.assertIs(one != other, False)

    def unlike(self, one, other):
        self.assertIs(one == other, False)
        self.assertIs(one != other, True)

    def test_empty_pools(self):
        self.alike(Pool(), Pool())
        pool = Pool()
        self.alike(pool, pool)

    def test_an_empty_pool_and_another_one(self):
        pool = Pool()
        pool.come("elm", ("a",))
        self.unlike(pool, Pool())
        self.unlike(Pool(), pool)

    def test_books_alike(self):
        one, other = pool_of(BOOK), pool_of(BOOK)
        self.alike(one, other)
        one.put("elm", 5, (None, None))
        self.unlike(one, other)
        one.out("elm", 5)
        self.alike(one, other)
        one.put("elm", 0, BOOK[0][0][1][1][0][1])
        self.alike(one, other)

    def test_each_part_counts(self):
        deeds = [("come", ("ash", ("a",))), ("put", ("elm", 5, (1, 1))), ("put", ("elm", 0, (1, "blue"))),
                 ("out", ("oak", 7)), ("like", calls("elm.code oak.town")), ("tie", calls("elm.0 oak.1")),
                 ("cut", calls("elm.0 oak.1")), ("key", (calls("elm.size"),))]
        for deed in deeds:
            pool = pool_of(BOOK)
            do(pool, deed)
            self.unlike(pool, pool_of(BOOK))
            self.unlike(pool_of(BOOK), pool)
            again = pool_of(BOOK)
            do(again, deed)
            self.alike(pool, again)
        # A tie is no cut.
        one, other = pool_of(BOOK[:3] + (BOOK[3], ())), pool_of(BOOK[:3] + ((), BOOK[3]))
        self.unlike(one, other)

    def test_nothing_else_equals_one(self):
        for pool in (Pool(), pool_of(BOOK)):
            for thing in ANYTHING + [BOOK, ((), (), (), (), ()), {}, Pool, object()]:
                self.unlike(pool, thing)
                self.unlike(thing, pool)


class Refused(unittest.TestCase):
    def refused(self, error, pool, deed, *handed):
        """That a deed is refused by just this error, and that the pool stays as it was."""
        before = copy.deepcopy(pool)
        kept = repr(handed)
        with self.assertRaises(PoolError) as caught:
            getattr(pool, deed)(*handed)
        self.assertEqual(caught.exception.__class__, error, (deed, handed))
        self.assertTrue(pool == before)
        self.assertEqual(repr(handed), kept)

    def test_book_of_an_empty_pool(self):
        self.refused(NoHouse, Pool(), "book")

    def test_come(self):
        pool = pool_of(BOOK)
        for name in ANYTHING:
            if name not in ("elm", "code", "oak") or not isinstance(name, str):
                self.refused(NoName, pool, "come", name, ("a",))
                self.refused(NoName, pool, "come", name, None)
        for columns in ANYTHING + [("a",), ("code", "size")]:
            self.refused(Taken, pool, "come", "elm", columns)
        for columns in ANYTHING + [("b", "a"), ("a", "a"), ("a", "b", "c", "d", "e", "f"), ["a"], "a", ("a", 1), ("A",),
                                   ("a", None), ("a", ("b",)), ("nineletts",)]:
            self.refused(NoColumns, pool, "come", "ash", columns)

    def test_a_fifth_house(self):
        pool = Pool()
        for name in ("elm", "oak", "fir", "yew"):
            pool.come(name, ("a", "b", "c", "d", "e"))
        self.refused(Full, pool, "come", "ash", ("a",))
        self.refused(NoColumns, pool, "come", "ash", ("b", "a"))
        self.refused(Taken, pool, "come", "yew", ("a",))
        self.refused(NoName, pool, "come", "Ash", ("a",))

    def test_put(self):
        pool = pool_of(BOOK)
        for name in ANYTHING + ["ash", "el", "elmm"]:
            if name not in ("elm", "oak"):
                self.refused(NoHouse, pool, "put", name, 0, (1, 2))
                self.refused(NoHouse, pool, "put", name, None, None)
        for number in ANYTHING:
            if number not in (0, 1, 999) or isinstance(number, bool):
                self.refused(NoRow, pool, "put", "elm", number, (1, 2))
        for row in ANYTHING + [(1,), (1, 2, 3), [1, 2], (1, True), (False, 1), (1, ""), (1, "Red"), (10 ** 6 + 1, 1),
                               (1, (2,)), (1, [2])]:
            if row not in ((0, 1), ("elm", 0), ("elm", "code")):
                self.refused(NoRow, pool, "put", "elm", 5, row)
                self.refused(NoRow, pool, "put", "elm", 0, row)
        # A row of one house is none of another one.
        self.refused(NoRow, pool, "put", "oak", 0, (1, 2))
        self.refused(NoRow, pool, "put", "elm", 0, (1, 2, 3))

    def test_truths_are_no_ids(self):
        pool = pool_of(BOOK)
        for truth in (True, False):
            self.refused(NoRow, pool, "put", "elm", truth, (1, 2))
            self.refused(NoRow, pool, "out", "elm", truth)
            for deed in ("tie", "cut"):
                self.refused(NoRow, pool, deed, ("elm", truth), ("oak", 0))
                self.refused(NoRow, pool, deed, ("oak", 0), ("elm", truth))

    def test_a_ninth_row(self):
        pool = Pool()
        pool.come("elm", ("a",))
        pool.come("oak", ("a",))
        for number in range(8):
            pool.put("elm", number * 3, (number,))
        self.refused(Full, pool, "put", "elm", 1, (1,))
        self.refused(Full, pool, "put", "elm", 999, (1,))
        self.refused(NoRow, pool, "put", "elm", 1000, (1,))
        self.refused(NoRow, pool, "put", "elm", 1, (1, 1))
        self.refused(NoHouse, pool, "put", "ash", 1, (1,))
        # In the place of another one it finds room, and so it does in another house.
        pool.put("elm", 21, ("new",))
        pool.put("oak", 1, (1,))
        self.assertEqual(pool.book()[0][0][1][1][-1], (21, ("new",)))
        self.assertEqual(len(pool.book()[0][0][1][1]), 8)
        pool.out("elm", 0)
        pool.put("elm", 1, (1,))
        self.assertEqual([number for number, _ in pool.book()[0][0][1][1]], [1, 3, 6, 9, 12, 15, 18, 21])

    def test_out(self):
        pool = pool_of(BOOK)
        for name in ANYTHING + ["ash"]:
            if name not in ("elm", "oak"):
                self.refused(NoHouse, pool, "out", name, 0)
                self.refused(NoHouse, pool, "out", name, None)
        for number in ANYTHING + [2, 7]:
            if number not in (0, 1) or isinstance(number, bool):
                self.refused(NoRow, pool, "out", "elm", number)
        pool.out("elm", 0)
        self.refused(NoRow, pool, "out", "elm", 0)

    def linked(self, deed, error, one, other, strays, same):
        """The refusals of a like, a tie or a cut of what calls one and other, two that are there."""
        pool = pool_of((BOOK[0], (), (), (), ()))
        for stray in strays:
            for good in (one, other, None):
                self.refused(error, pool, deed, stray, good)
                self.refused(error, pool, deed, good, stray)
        for pair in spoilt((one, other)):
            if isinstance(pair, tuple) and len(pair) == 2:
                self.refused(error, pool, deed, *pair)
        for pair in same:
            self.refused(Same, pool, deed, *pair)
            self.refused(Same, pool, deed, *pair[::-1])
        getattr(pool, deed)(one, other)
        self.refused(Taken, pool, deed, one, other)
        self.refused(Taken, pool, deed, other, one)
        # What is no column, no row, or of one house goes ahead of what is there.
        self.refused(error, pool, deed, one, None)
        self.refused(Same, pool, deed, one, one)

    def test_like(self):
        strays = [thing for thing in ANYTHING if thing != ("elm", "code")]
        strays += [call("elm.mark"), call("ash.a"), call("elm.0"), ["elm", "code"], ("elm", "code", "code"),
                   ("code", "elm")]
        same = [calls("elm.code elm.size"), calls("oak.mark oak.town"), calls("elm.code elm.code")]
        self.linked("like", NoColumn, call("elm.code"), call("oak.mark"), strays, same)

    def test_tie_and_cut(self):
        strays = [thing for thing in ANYTHING if thing != ("elm", 0)]
        strays += [call("elm.2"), call("oak.2"), call("ash.0"), call("elm.code"), ["elm", 0], ("elm", 0, 0), (0, "elm")]
        same = [calls("elm.0 elm.1"), calls("oak.7 oak.0"), calls("oak.1 oak.1")]
        for deed in ("tie", "cut"):
            self.linked(deed, NoRow, call("elm.0"), call("oak.7"), strays, same)

    def test_thirteenth_ones(self):
        pool = Pool()
        for name in ("elm", "oak"):
            pool.come(name, ("a", "b", "c", "d"))
            for number in range(4):
                pool.put(name, number, (None, None, None, None))
        columns = [calls(f"oak.{one} elm.{other}") for one in "abcd" for other in "abcd"]
        rows = [calls(f"oak.{one} elm.{other}") for one in range(4) for other in range(4)]
        for deed, error, links in (("like", NoColumn, columns), ("tie", NoRow, rows), ("cut", NoRow, rows)):
            for link in links[:12]:
                do(pool, (deed, link))
            for link in links[12:]:
                self.refused(Full, pool, deed, *link)
                self.refused(Full, pool, deed, *link[::-1])
            for link in links[:12]:
                self.refused(Taken, pool, deed, *link)
                self.refused(Taken, pool, deed, *link[::-1])
            self.refused(Same, pool, deed, links[0][0], links[-1][0])
            self.refused(error, pool, deed, links[0][0], None)
        self.assertTrue(is_book(pool.book()))
        # With a row four ties and four cuts go, and make room.
        pool.out("elm", 0)
        self.assertEqual([len(part) for part in pool.book()], [2, 12, 0, 9, 9])
        pool.tie(*rows[-1])
        self.assertEqual(len(pool.book()[3]), 10)

    def test_key(self):
        pool = pool_of((BOOK[0], (), (), (), ()))
        good = calls("elm.code oak.size")
        for columns in ANYTHING + [call("elm.code"), calls("elm.mark"), calls("oak.size elm.code"), list(good),
                                   calls("elm.code elm.code"), calls("elm.code elm.size oak.mark oak.size"),
                                   (["elm", "code"],), (("elm", "code", "code"),), calls("elm.0"), calls("ash.code")]:
            self.refused(NoKey, pool, "key", columns)
        for columns in spoilt(good):
            self.refused(NoKey, pool, "key", columns)
        pool.key(good)
        self.refused(Taken, pool, "key", good)
        pool.key(calls("oak.size"))
        pool.key(calls("elm.code elm.size oak.mark"))
        self.refused(Full, pool, "key", calls("oak.town"))
        self.refused(Taken, pool, "key", calls("oak.size"))
        self.refused(NoKey, pool, "key", ())
        self.assertEqual(pool.book()[2], (calls("elm.code elm.size oak.mark"), good, calls("oak.size")))

    def test_an_empty_pool(self):
        pool = Pool()
        self.refused(NoHouse, pool, "put", "elm", 0, (1,))
        self.refused(NoHouse, pool, "out", "elm", 0)
        self.refused(NoColumn, pool, "like", *calls("elm.a oak.a"))
        self.refused(NoRow, pool, "tie", *calls("elm.0 oak.0"))
        self.refused(NoRow, pool, "cut", *calls("elm.0 oak.0"))
        self.refused(NoKey, pool, "key", calls("elm.a"))

    def test_anything_is_taken_or_refused(self):
        deeds = [deed for deeds in deeds_of(BOOK) for deed in deeds] + [("out", ("elm", 0))]
        base = pool_of((BOOK[0], (), (), (), ()))
        for name, handed in deeds:
            for thing in stirred(handed):
                if not isinstance(thing, tuple) or len(thing) != len(handed):
                    continue
                pool = copy.deepcopy(base)
                try:
                    do(pool, (name, thing))
                except PoolError:
                    self.assertTrue(pool == base)
                self.assertTrue(is_book(pool.book()), (name, thing))
