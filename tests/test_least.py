"""Promises 2, 3 and 8: the fewest likes, or tied pairs, without which nothing is odd."""

import copy
import itertools
import random
import unittest

from poolbook.errors import PoolError, TooMany
from poolbook.houses import are_likes, kinds, odd_kinds
from poolbook.least import fewest_likes, fewest_ties
from poolbook.ties import is_book, odd_things, tied
from samples import bare, book, calls, chance_book, pairs, table

# Four houses, each with the columns a, b, c, d.
WIDE = tuple([(name, (("a", "b", "c", "d"), ())) for name in ("ash", "elm", "oak", "yew")])


def lots(members, many):
    """All rising tuples of so many members, in order, as the members rise."""
    return itertools.combinations(sorted(members), many)


def tried_likes(houses, likes):
    """The first of the fewest likes, by trying all lots."""
    for many in range(len(likes) + 1):
        for lot in lots(likes, many):
            if not odd_kinds(houses, tuple([pair for pair in likes if pair not in lot])):
                return lot


def tried_ties(made):
    """The first of the fewest tied pairs, by trying all lots as further cuts."""
    for many in range(len(tied(made)) + 1):
        for lot in lots(tied(made), many):
            if not odd_things(made[:4] + (tuple(sorted(set(made[4] + lot))),)):
                return lot


class FewestLikes(unittest.TestCase):
    def told(self, likes, fewest):
        likes, fewest = pairs(likes), pairs(fewest)
        self.assertTrue(are_likes(WIDE, likes))
        found = fewest_likes(WIDE, likes)
        self.assertIsInstance(found, tuple)
        self.assertEqual(found, fewest)
        self.assertEqual(found, tried_likes(WIDE, likes))

    def test_no_odd_kind(self):
        self.told("", "")
        self.told("ash.a-elm.a", "")
        self.told("ash.b-elm.a ash.b-yew.d elm.a-oak.c", "")
        self.told("ash.a-elm.a ash.a-oak.a ash.a-yew.a elm.a-oak.a elm.a-yew.a oak.a-yew.a", "")

    def test_one_odd_kind_of_as_few_the_first(self):
        self.told("ash.a-elm.a ash.b-elm.a", "ash.a-elm.a")
        self.told("ash.c-elm.d elm.d-oak.a oak.a-yew.a ash.d-yew.a", "ash.c-elm.d")

    def test_fewer_go_ahead_of_first(self):
        # A ring of three on each side: only the like between them parts both at once.
        self.told("ash.a-elm.a ash.a-oak.a elm.a-oak.a ash.b-elm.b ash.b-oak.b elm.b-oak.b oak.b-yew.a oak.a-yew.a",
                  "oak.a-yew.a")
        self.told("ash.a-elm.a ash.a-oak.a elm.a-oak.a ash.b-oak.a", "ash.b-oak.a")

    def test_likes_of_a_ring(self):
        self.told("ash.a-elm.a ash.b-elm.a ash.b-elm.b ash.a-elm.b", "ash.a-elm.a ash.b-elm.b")

    def test_one_like_may_free_several_houses(self):
        self.told("ash.a-elm.a ash.b-elm.b ash.b-oak.a elm.a-oak.a", "ash.b-oak.a")

    def test_several_odd_kinds_that_share_no_like(self):
        self.told("ash.a-elm.a ash.b-elm.a elm.c-yew.a oak.d-yew.a oak.d-yew.b", "ash.a-elm.a oak.d-yew.a")
        self.told("ash.c-oak.c ash.d-oak.c ash.a-elm.b ash.b-elm.b elm.d-yew.d elm.d-yew.c",
                  "ash.a-elm.b ash.c-oak.c elm.d-yew.c")

    def test_several_clashes_that_share_likes(self):
        # oak.a hangs with two of ash and two of elm.
        self.told("ash.a-oak.a ash.b-oak.a elm.a-oak.a elm.b-oak.a", "ash.a-oak.a elm.a-oak.a")
        self.told("ash.a-elm.a ash.b-elm.b elm.a-oak.a elm.b-oak.a", "elm.a-oak.a")
        self.told("ash.a-elm.a ash.a-elm.b ash.a-elm.c ash.a-elm.d", "ash.a-elm.a ash.a-elm.b ash.a-elm.c")

    def test_sound_likes_beside_odd_ones_stay(self):
        self.told("ash.a-elm.a ash.b-elm.b ash.c-elm.b oak.a-yew.a", "ash.b-elm.b")

    def test_twelve_likes_in_one_odd_kind(self):
        twelve = [f"ash.{one}-{house}.a" for one in "abcd" for house in ("elm", "oak", "yew")]
        likes = pairs(" ".join(twelve))
        self.assertEqual(fewest_likes(WIDE, likes), tried_likes(WIDE, likes))
        self.assertEqual(len(fewest_likes(WIDE, likes)), 9)

    def test_somewhat_more_than_twelve_likes(self):
        every = " ".join([f"ash.{one}-elm.{other}" for one in "abcd" for other in "abcd"])
        found = fewest_likes(WIDE, pairs(every))
        self.assertEqual(len(found), 12)
        self.assertEqual(odd_kinds(WIDE, tuple([pair for pair in pairs(every) if pair not in found])), [])

    def test_by_chance(self):
        chance = random.Random(8)
        columns = [(name, column) for name, (own, _) in WIDE for column in own[:3]]
        every = [(one, other) for one in columns for other in columns if one[0] < other[0]]
        sizes = {}
        for _ in range(150):
            likes = tuple(sorted(chance.sample(every, chance.randint(0, 9))))
            found = fewest_likes(WIDE, likes)
            self.assertEqual(found, tried_likes(WIDE, likes), likes)
            sizes[len(found)] = sizes.get(len(found), 0) + 1
        self.assertTrue(min([sizes.get(many, 0) for many in (0, 1, 2, 3)]) > 5, sizes)

    def test_nothing_handed_in_is_changed(self):
        likes = pairs("ash.a-elm.a ash.b-elm.a")
        houses, kept = copy.deepcopy(WIDE), copy.deepcopy(likes)
        self.assertEqual(fewest_likes(houses, likes), fewest_likes(houses, likes))
        self.assertEqual((houses, likes), (WIDE, kept))
        self.assertEqual(len(kinds(houses, likes)), 14)


# Keys tie each of elm's three rows with code 1 to both of oak's, which are six tied pairs.
KEYED = (
    ("elm", table("code", r0=(1,), r1=(1,), r2=(1,), r3=(2,))),
    ("oak", table("mark", r0=(1,), r1=(1,), r3=(2,))),
)


def star(name, many):
    """Ties of one row of house a with so many of another house."""
    return " ".join([f"a.0-{name}.{number}" for number in range(many)])


class FewestTies(unittest.TestCase):
    def told(self, made, fewest):
        found = fewest_ties(made)
        self.assertIsInstance(found, tuple)
        self.assertEqual(found, pairs(fewest))
        self.assertEqual(found, tried_ties(made))

    def test_no_odd_thing(self):
        self.told(book(bare("a.0 a.1 b.0")), "")
        self.told(book(bare("a.0 b.0 c.0 d.0"), ties="a.0-b.0 a.0-c.0 b.0-c.0 c.0-d.0"), "")

    def test_without_rows(self):
        self.told(book((("a", (("x",), ())),)), "")

    def test_one_odd_thing(self):
        self.told(book(bare("a.0 b.0 b.1"), ties="a.0-b.0 a.0-b.1"), "a.0-b.0")
        self.told(book(bare("a.0 a.1 b.0 c.0"), ties="a.0-b.0 b.0-c.0 a.1-c.0"), "a.0-b.0")

    def test_fewer_go_ahead_of_first(self):
        made = book(bare("a.0 a.1 b.0 c.0"), ties="a.0-b.0 a.0-c.0 b.0-c.0 a.1-c.0")
        self.told(made, "a.1-c.0")

    def test_several_odd_things(self):
        made = book(bare("a.0 a.1 b.0 b.1 b.2 c.0 c.1"), ties="a.0-b.2 a.0-b.0 a.1-b.1 a.1-c.1 b.1-c.0")
        self.told(made, "a.0-b.0 a.1-b.1")

    def test_pairs_that_clash_at_once(self):
        made = book(bare("a.0 a.1 b.0 b.1 c.0"), ties="a.0-b.0 a.1-b.1 b.0-c.0 b.1-c.0")
        self.told(made, "b.0-c.0")

    def test_pairs_tied_by_keys(self):
        made = book(KEYED, "elm.code-oak.mark", ["elm.code"])
        self.told(made, "elm.0-oak.0 elm.0-oak.1 elm.1-oak.0 elm.2-oak.1")

    def test_pairs_tied_by_keys_and_by_ties(self):
        made = book(KEYED, "elm.code-oak.mark", ["elm.code"], "elm.3-oak.0 elm.0-oak.0", "elm.1-oak.0 elm.2-oak.0")
        self.told(made, "elm.0-oak.1 elm.1-oak.1 elm.3-oak.0")

    def test_pairs_that_are_cut_already_are_not_told(self):
        made = book(bare("a.0 b.0 b.1 b.2"), ties="a.0-b.0 a.0-b.1 a.0-b.2", cuts="a.0-b.0")
        self.told(made, "a.0-b.1")
        self.told(made[:4] + (pairs("a.0-b.0 a.0-b.1"),), "")

    def test_odd_kinds_are_no_hindrance(self):
        houses = (("elm", table("a", r0=(1,), r1=(2,))), ("oak", table("p q", r0=(1, 2), r1=(1, 1))))
        made = book(houses, "elm.a-oak.p elm.a-oak.q", ["elm.a"])
        self.told(made, "elm.0-oak.0")

    def test_twelve_within_one_odd_thing(self):
        made = book(bare("a.0 a.1 b.0 b.1 b.2 c.0 c.1 c.2 d.0"),
                    ties="a.0-b.0 a.0-b.1 a.0-b.2 a.0-c.0 a.0-c.1 a.0-c.2 "
                         "a.1-b.0 a.1-c.0 a.1-d.0 b.0-d.0 b.1-c.1 b.2-d.0")
        self.assertEqual(len(tied(made)), 12)
        self.told(made, "a.0-b.0 a.0-b.1 a.0-c.0 a.0-c.1 b.2-d.0")

    def refused(self, made):
        with self.assertRaises(TooMany) as caught:
            fewest_ties(made)
        self.assertEqual(caught.exception.most, 12)
        self.assertIsInstance(caught.exception, PoolError)

    def keyed(self, left, right, **parts):
        """Rows of two houses, all of which agree: left times right tied pairs."""
        houses = (("a", table("x", **{f"r{number}": (5,) for number in range(left)})),
                  ("b", table("x", **{f"r{number}": (5,) for number in range(right)})))
        return book(houses, "a.x-b.x", ["a.x"], **parts)

    def test_twelve_and_thirteen_by_keys(self):
        self.assertEqual(len(fewest_ties(self.keyed(3, 4))), 9)
        self.refused(self.keyed(3, 5))
        self.refused(self.keyed(8, 8))
        fourteen = self.keyed(2, 7)
        self.refused(fourteen)
        self.refused(fourteen[:4] + (pairs("a.0-b.0"),))
        twelve = fourteen[:4] + (pairs("a.0-b.0 a.0-b.1"),)
        self.assertEqual(len(tied(twelve)), 12)
        self.assertEqual(len(fewest_ties(twelve)), 10)

    def test_twelve_and_thirteen_over_several_odd_things(self):
        rows = "a.0 b.0 b.1 b.2 b.3 b.4 b.5 b.6 c.0 c.1 c.2 c.3 d.0 d.1"
        # Seven tied pairs in one thing, four in another one, by ties; the last two by a key.
        houses = bare(rows)
        filled = tuple([(name, (("a",), tuple([(number, (7,) if name == "d" or (name, number) == ("c", 3) else (None,))
                                               for number, _ in own]))) for name, (_, own) in houses])
        ties = star("b", 6) + " b.6-c.0 b.6-c.1 b.6-c.2"
        eleven = book(filled, "c.a-d.a", ["c.a"], ties)
        self.assertEqual((len(tied(eleven)), len(odd_things(eleven))), (11, 3))
        self.told(eleven, star("b", 5) + " b.6-c.0 b.6-c.1 c.3-d.0")
        twelve = eleven[:3] + (pairs(ties + " b.0-c.3"),) + eleven[4:]
        self.assertEqual((len(tied(twelve)), len(odd_things(twelve))), (12, 2))
        self.told(twelve, star("b", 5) + " b.6-c.0 b.6-c.1 c.3-d.0")
        thirteen = eleven[:3] + (pairs(ties + " b.0-c.3 a.0-c.3"),) + eleven[4:]
        self.assertEqual((len(tied(thirteen)), len(odd_things(thirteen))), (13, 2))
        self.refused(thirteen)

    def test_many_tied_pairs_outside_of_odd_things(self):
        houses = tuple([(name, table("x", **{f"r{number}": (number,) for number in range(8)})) for name in "abcd"])
        likes, keys = "a.x-b.x b.x-c.x c.x-d.x", ["a.x"]
        made = book(houses, likes, keys)
        self.assertEqual((len(tied(made)), odd_things(made)), (48, []))
        self.assertEqual(fewest_ties(made), ())
        # Joined, two of these things hold thirteen tied pairs; with one cut there are twelve.
        self.refused(book(houses, likes, keys, "a.0-b.1"))
        self.assertEqual(fewest_ties(book(houses, likes, keys, "a.0-b.1", "a.0-d.0")), pairs("a.0-b.1"))

    def chance_ties(self, chance):
        """A book with more odd things than others by chance have."""
        houses = bare("a.0 a.1 b.0 b.1 b.2 c.0 c.1 d.0")
        rows = [(name, number) for name, (_, own) in houses for number, _ in own]
        every = [(one, other) for one in rows for other in rows if one[0] < other[0]]
        return (houses, (), (), tuple(sorted(chance.sample(every, chance.randint(2, 9)))), ())

    def test_by_chance(self):
        chance = random.Random(9)
        sizes = {}
        for made in [chance_book(chance) for _ in range(200)] + [self.chance_ties(chance) for _ in range(100)]:
            found = fewest_ties(made)
            self.assertEqual(found, tried_ties(made), made)
            sizes[len(found)] = sizes.get(len(found), 0) + 1
        self.assertTrue(min([sizes.get(many, 0) for many in (0, 1, 2, 3)]) > 5, sizes)

    def test_nothing_handed_in_is_changed(self):
        made = book(KEYED, "elm.code-oak.mark", ["elm.code"])
        kept = copy.deepcopy(made)
        self.assertEqual(fewest_ties(made), fewest_ties(made))
        self.assertEqual(made, kept)
        self.assertTrue(is_book(made))
        self.assertEqual(odd_things(made), [calls("elm.0 elm.1 elm.2 oak.0 oak.1")])
