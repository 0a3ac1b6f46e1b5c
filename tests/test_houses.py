"""Promises 2, 4 and 5: houses, likes, kinds."""

import copy
import unittest

from poolbook.houses import are_houses, are_likes, kinds, odd_kinds
from samples import ANYTHING, HOUSES, LIKES, spoilt, stirred


def houses_with_columns(*columns):
    return (("elm", (columns, ())),)


def houses_with_rows(*rows):
    return (("elm", (("code", "size"), rows)),)


def houses_with_ids(*numbers):
    return houses_with_rows(*[(number, (None, None)) for number in numbers])


def houses_with_worth(worth):
    return houses_with_rows((0, (worth, None)))


def houses_called(*names):
    return tuple([(name, (("code",), ())) for name in names])


class AreHouses(unittest.TestCase):
    def right(self, thing):
        self.assertIs(are_houses(thing), True, thing)

    def wrong(self, thing):
        self.assertIs(are_houses(thing), False, thing)

    def test_good_houses(self):
        self.right(HOUSES)
        self.right(HOUSES[:1])
        self.right(houses_with_columns("code"))

    def test_each_part_spoilt(self):
        for thing in spoilt(HOUSES):
            self.wrong(thing)

    def test_things_of_all_kinds_are_answered(self):
        for thing in ANYTHING:
            self.wrong(thing)
        for thing in stirred(HOUSES):
            self.assertIn(are_houses(thing), (True, False))
            self.assertIsInstance(are_houses(thing), bool)

    def test_names(self):
        for name in ("a", "z", "az", "abcdefgh"):
            self.right(houses_called(name))
            self.right(houses_with_columns(name))
            self.right(houses_with_worth(name))
        for name in ("", "abcdefghi", "Elm", "elM", "elm1", "1", "el m", "el_m", "`", "{", "~", "-1"):
            self.wrong(houses_called(name))
            self.wrong(houses_with_columns(name))
            self.wrong(houses_with_worth(name))

    def test_columns(self):
        self.right(houses_with_columns("a", "b", "c", "d", "e"))
        self.wrong(houses_with_columns("a", "b", "c", "d", "e", "f"))
        self.wrong(houses_with_columns())
        self.wrong(houses_with_columns("b", "a"))
        self.wrong(houses_with_columns("a", "c", "b"))
        self.wrong(houses_with_columns("a", "a"))
        self.wrong(houses_with_columns("a", 1))
        self.wrong(houses_with_columns("a", None))

    def test_ids(self):
        self.right(houses_with_ids(0))
        self.right(houses_with_ids(999))
        self.right(houses_with_ids(0, 999))
        for number in (-1, 1000, True, False, None, "a", "1", (), [0]):
            self.wrong(houses_with_ids(number))

    def test_rows_rise_and_are_at_most_eight(self):
        self.right(houses_with_ids())
        self.right(houses_with_ids(*range(8)))
        self.wrong(houses_with_ids(*range(9)))
        self.wrong(houses_with_ids(2, 1))
        self.wrong(houses_with_ids(1, 3, 2))
        self.wrong(houses_with_ids(1, 1))

    def test_ids_are_unlike_where_their_rows_are_not_the_same(self):
        self.wrong(houses_with_rows((1, (1, 1)), (1, (2, 1))))
        self.wrong(houses_with_rows((1, (None, 1)), (1, (2, 1))))
        self.wrong(houses_with_rows((1, ("a", 1)), (1, (2, 1))))

    def test_worths(self):
        for worth in (None, 0, -10 ** 6, 10 ** 6, "a"):
            self.right(houses_with_worth(worth))
        for worth in (-10 ** 6 - 1, 10 ** 6 + 1, 10 ** 39, True, False, (), (1,), [1], []):
            self.wrong(houses_with_worth(worth))

    def test_rows_have_a_worth_for_each_column(self):
        self.right(houses_with_rows((0, (1, 2))))
        self.wrong(houses_with_rows((0, (1,))))
        self.wrong(houses_with_rows((0, (1, 2, 3))))
        self.wrong(houses_with_rows((0, ())))

    def test_pairs_have_two_parts(self):
        self.wrong(houses_with_rows((0,)))
        self.wrong(houses_with_rows((0, (1, 2), 3)))
        self.wrong((("elm",),))
        self.wrong((("elm", (("code",), ()), 0),))
        self.wrong((("elm", (("code",),)),))
        self.wrong((("elm", (("code",), (), ())),))

    def test_houses_rise_and_are_one_to_four(self):
        self.wrong(())
        self.right(houses_called("a", "b", "c", "d"))
        self.wrong(houses_called("a", "b", "c", "d", "e"))
        self.wrong(houses_called("b", "a"))
        self.wrong(houses_called("a", "c", "b"))
        self.wrong(houses_called("a", "a"))
        # One name, and tables that rise or do not compare.
        self.wrong((("elm", (("a",), ())), ("elm", (("b",), ()))))
        self.wrong((("elm", (("a",), ((0, (1,)),))), ("elm", (("a",), ((0, ("x",)),)))))


# Four houses, each with the columns a, b, c, d.
WIDE = tuple([(name, (("a", "b", "c", "d"), ())) for name in ("ash", "elm", "oak", "yew")])


def like(one, other):
    """A like of columns that are written house.name."""
    return (tuple(one.split(".")), tuple(other.split(".")))


class AreLikes(unittest.TestCase):
    def right(self, thing, houses=WIDE):
        self.assertIs(are_likes(houses, thing), True, thing)

    def wrong(self, thing, houses=WIDE):
        self.assertIs(are_likes(houses, thing), False, thing)

    def test_good_likes(self):
        self.right(LIKES, HOUSES)
        self.right(())
        self.right((like("ash.a", "elm.a"),))
        self.right((like("ash.d", "yew.a"),))

    def test_each_part_spoilt(self):
        for thing in spoilt(LIKES):
            self.wrong(thing, HOUSES)

    def test_things_of_all_kinds_are_answered(self):
        for thing in ANYTHING:
            self.assertIs(are_likes(HOUSES, thing), thing == (), thing)
        for thing in stirred(LIKES):
            self.assertIsInstance(are_likes(HOUSES, thing), bool)

    def test_the_lesser_one_is_ahead(self):
        self.wrong((like("elm.a", "ash.a"),))
        self.wrong((like("elm.a", "ash.d"),))

    def test_columns_are_of_unlike_houses(self):
        self.wrong((like("ash.a", "ash.b"),))
        self.wrong((like("ash.a", "ash.a"),))

    def test_columns_are_there(self):
        self.wrong((like("ash.e", "elm.a"),))
        self.wrong((like("ash.a", "elm.e"),))
        self.wrong((like("fir.a", "oak.a"),))
        self.wrong((like("ash.a", "fir.a"),))
        self.wrong((like("elm.size", "oak.code"),), HOUSES)
        self.right((like("elm.size", "oak.town"),), HOUSES)

    def test_at_most_twelve(self):
        twelve = [like(f"ash.{one}", f"{house}.a") for one in "abcd" for house in ("elm", "oak", "yew")]
        self.right(tuple(twelve))
        self.wrong(tuple(twelve + [like("elm.a", "oak.a")]))

    def test_they_rise(self):
        one, other = like("ash.a", "elm.b"), like("ash.a", "oak.a")
        self.right((one, other))
        self.wrong((other, one))
        self.wrong((one, one))
        self.wrong((like("ash.b", "elm.a"), one))

    def test_parts_have_two_parts(self):
        self.wrong(((("ash", "a"),),))
        self.wrong(((("ash", "a"), ("elm", "a"), ("oak", "a")),))
        self.wrong(((("ash",), ("elm", "a")),))
        self.wrong(((("ash", "a", "a"), ("elm", "a")),))
        self.wrong((("ash", "elm"),))


class Kinds(unittest.TestCase):
    CHAIN = (like("ash.b", "elm.a"), like("ash.b", "yew.d"), like("elm.a", "oak.c"))
    ODD = (like("ash.a", "elm.a"), like("ash.b", "elm.a"), like("elm.c", "yew.a"), like("oak.d", "yew.a"),
           like("oak.d", "yew.b"))

    def test_columns_alone(self):
        houses = (("elm", (("a", "b"), ())), ("oak", (("a",), ())))
        self.assertEqual(kinds(houses, ()), [(("elm", "a"),), (("elm", "b"),), (("oak", "a"),)])
        self.assertEqual(odd_kinds(houses, ()), [])

    def test_columns_of_one_name_are_not_alike_unless_told(self):
        self.assertEqual(len(kinds(WIDE, ())), 16)

    def test_a_chain_is_one_kind(self):
        found = kinds(WIDE, self.CHAIN)
        self.assertIn((("ash", "b"), ("elm", "a"), ("oak", "c"), ("yew", "d")), found)
        self.assertEqual(len(found), 13)
        self.assertEqual(odd_kinds(WIDE, self.CHAIN), [])

    def test_every_column_is_in_one_kind_and_all_rise(self):
        for likes in ((), self.CHAIN, self.ODD):
            found = kinds(WIDE, likes)
            columns = [column for kind in found for column in kind]
            self.assertEqual(sorted(columns), [(name, column) for name, (own, _) in WIDE for column in own])
            self.assertEqual(found, sorted(found))
            for kind in found:
                self.assertIsInstance(kind, tuple)
                self.assertEqual(list(kind), sorted(kind))

    def test_odd_kinds(self):
        first = (("ash", "a"), ("ash", "b"), ("elm", "a"))
        second = (("elm", "c"), ("oak", "d"), ("yew", "a"), ("yew", "b"))
        self.assertEqual(odd_kinds(WIDE, self.ODD), [first, second])
        self.assertEqual(len(kinds(WIDE, self.ODD)), 16 - 5)

    def test_odd_kinds_over_a_chain(self):
        likes = (like("ash.a", "elm.a"), like("ash.d", "oak.a"), like("elm.a", "yew.a"), like("oak.a", "yew.a"))
        kind = (("ash", "a"), ("ash", "d"), ("elm", "a"), ("oak", "a"), ("yew", "a"))
        self.assertEqual(odd_kinds(WIDE, likes), [kind])

    def test_odd_kinds_that_a_later_like_joins_rise(self):
        likes = (like("ash.a", "oak.b"), like("ash.b", "oak.c"), like("ash.b", "oak.d"), like("elm.a", "oak.a"),
                 like("elm.a", "oak.b"))
        first = (("ash", "a"), ("elm", "a"), ("oak", "a"), ("oak", "b"))
        self.assertEqual(odd_kinds(WIDE, likes), [first, (("ash", "b"), ("oak", "c"), ("oak", "d"))])

    def test_sample(self):
        self.assertEqual(kinds(HOUSES, LIKES), [
            (("elm", "code"), ("oak", "mark")), (("elm", "size"), ("oak", "size")), (("oak", "town"),)])

    def test_lists_are_new_ones(self):
        for ask in (kinds, odd_kinds):
            found = ask(WIDE, self.ODD)
            self.assertIsInstance(found, list)
            kept = list(found)
            found.clear()
            self.assertEqual(ask(WIDE, self.ODD), kept)

    def test_nothing_handed_in_is_changed(self):
        houses, likes = copy.deepcopy(WIDE), copy.deepcopy(self.ODD)
        are_houses(houses)
        are_likes(houses, likes)
        kinds(houses, likes)
        odd_kinds(houses, likes)
        self.assertEqual((houses, likes), (WIDE, self.ODD))
        # Lists are the only ones that could be changed.
        thing = [["elm", [["code"], [[0, [1]]]]]]
        kept = copy.deepcopy(thing)
        are_houses(thing)
        are_likes(houses, thing)
        self.assertEqual(thing, kept)

    def test_beyond_the_limits(self):
        names = [f"{one}{other}" for one in "abc" for other in "abcdef"]
        houses = tuple([(name, (tuple(names), ())) for name in names])
        likes = tuple([like(f"aa.{name}", f"ab.{name}") for name in names])
        self.assertEqual(len(kinds(houses, likes)), 18 * 18 - 18)
        self.assertEqual(odd_kinds(houses, likes), [])
