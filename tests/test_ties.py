"""Promises 2, 3, 6 and 7: books, what is tied, ways, things."""

import copy
import itertools
import random
import unittest

from poolbook.ties import is_book, odd_things, reasons, things, tied, way
from samples import (ANYTHING, BOOK, CUTS, HOUSES, KEYS, LIKES, TIES, at_place, bare, book, call, calls, chance_book,
                     pairs, put, spoilt, stirred, table)


class IsBook(unittest.TestCase):
    def right(self, thing):
        self.assertIs(is_book(thing), True, thing)

    def wrong(self, thing):
        self.assertIs(is_book(thing), False, thing)

    def with_keys(self, *keys):
        return (HOUSES, LIKES, keys, TIES, CUTS)

    def with_pairs(self, thing):
        """Two books, one with the thing as ties, one with it as cuts."""
        return [(HOUSES, LIKES, KEYS, thing, CUTS), (HOUSES, LIKES, KEYS, TIES, thing)]

    def test_good_books(self):
        self.right(BOOK)
        self.right((HOUSES, (), (), (), ()))
        self.right((HOUSES[:1], (), (), (), ()))

    def test_each_part_spoilt(self):
        for thing in spoilt(BOOK):
            self.wrong(thing)

    def test_things_of_all_kinds_are_answered(self):
        for thing in ANYTHING:
            self.wrong(thing)
        for thing in stirred(BOOK):
            self.assertIsInstance(is_book(thing), bool)

    def test_it_has_five_parts(self):
        self.wrong(BOOK[:4])
        self.wrong(BOOK + ((),))
        self.wrong(())

    def test_houses_and_likes(self):
        self.wrong(((), (), (), (), ()))
        self.wrong((HOUSES[::-1], LIKES, KEYS, TIES, CUTS))
        self.wrong((HOUSES, LIKES[::-1], KEYS, TIES, CUTS))
        self.wrong((HOUSES, (calls("elm.code oak.code"),), KEYS, TIES, CUTS))

    def test_likes_keys_ties_and_cuts_are_of_these_houses(self):
        for at in range(1, 5):
            self.wrong(put((HOUSES[:1], (), (), (), ()), (at,), BOOK[at]))
            self.right(put((HOUSES, (), (), (), ()), (at,), BOOK[at]))

    def test_keys_have_one_to_three_columns(self):
        self.right(self.with_keys(calls("elm.code")))
        self.right(self.with_keys(calls("elm.code elm.size oak.mark")))
        self.wrong(self.with_keys(calls("elm.code elm.size oak.mark oak.size")))
        self.wrong(self.with_keys(()))

    def test_at_most_three_keys(self):
        keys = [calls(text) for text in ("elm.code", "elm.size", "oak.mark", "oak.size")]
        self.right(self.with_keys())
        self.right(self.with_keys(*keys[:3]))
        self.wrong(self.with_keys(*keys))

    def test_keys_rise(self):
        one, other = calls("elm.code"), calls("elm.code oak.size")
        self.right(self.with_keys(one, other))
        self.wrong(self.with_keys(other, one))
        self.wrong(self.with_keys(one, one))

    def test_columns_of_keys_rise_and_are_there(self):
        self.wrong(self.with_keys(calls("oak.size elm.code")))
        self.wrong(self.with_keys(calls("elm.code elm.code")))
        self.wrong(self.with_keys(calls("elm.town")))
        self.wrong(self.with_keys(calls("fir.code")))
        self.wrong(self.with_keys(calls("elm.0")))
        self.wrong(self.with_keys(call("elm.code")))

    def test_a_key_may_call_a_kind_twice(self):
        self.right(self.with_keys(calls("elm.code oak.mark")))

    def test_ties_and_cuts(self):
        for thing in ("", "elm.0-oak.0", "elm.1-oak.7", "elm.0-oak.0 elm.0-oak.1 elm.0-oak.7 elm.1-oak.0"):
            for made in self.with_pairs(pairs(thing)):
                self.right(made)
        for thing in ("elm.0-elm.1", "elm.0-elm.0", "oak.0-elm.0", "oak.7-elm.0", "elm.2-oak.0", "elm.0-oak.2",
                      "fir.0-oak.0", "elm.0-fir.0", "elm.code-oak.mark"):
            for made in self.with_pairs(pairs(thing)):
                self.wrong(made)

    def test_ties_and_cuts_rise(self):
        one, other = pairs("elm.0-oak.1 elm.1-oak.0")
        for thing in ((other, one), (one, one), (one, other, one)):
            for made in self.with_pairs(thing):
                self.wrong(made)

    def test_a_truth_is_no_id(self):
        for thing in (((("elm", False), ("oak", 0)),), ((("elm", 0), ("oak", True)),)):
            for made in self.with_pairs(thing):
                self.wrong(made)

    def test_at_most_twelve_ties_and_cuts(self):
        houses = bare("a.0 a.1 a.2 a.3 b.0 b.1 b.2 b.3")
        every = [(("a", one), ("b", other)) for one in range(4) for other in range(4)]
        for many, answer in ((12, True), (13, False), (16, False)):
            self.assertIs(is_book((houses, (), (), tuple(every[:many]), ())), answer)
            self.assertIs(is_book((houses, (), (), (), tuple(every[:many]))), answer)

    def test_a_pair_may_be_a_tie_and_a_cut(self):
        self.right((HOUSES, LIKES, KEYS, TIES, TIES))

    def test_no_pair_and_no_row_is_too_short(self):
        for place in ((0, 0), (0, 0, 1), (0, 0, 1, 1, 0), (0, 0, 1, 1, 0, 1), (1, 0), (1, 0, 0), (2, 0, 0),
                      (3, 0), (3, 0, 0), (4, 1), (4, 1, 1)):
            self.wrong(put(BOOK, place, at_place(BOOK, place)[:1]))


# elm calls its number code, oak mark, fir far.
KEYED = (
    ("elm", table("code size", r0=(1, "red"), r1=(2, "red"), r2=(None, "red"), r3=("ann", None))),
    ("fir", table("far", r0=(1,), r5=(2,))),
    ("oak", table("mark size", r0=(1, "red"), r1=(2, "blue"), r2=(None, None), r3=("ann", "red"), r4=(1, None))),
)


class Agreeing(unittest.TestCase):
    LIKES = "elm.code-oak.mark elm.size-oak.size"

    def test_key_of_one_column(self):
        made = book(KEYED, self.LIKES, ["elm.code"])
        self.assertEqual(tied(made), list(pairs("elm.0-oak.0 elm.0-oak.4 elm.1-oak.1 elm.3-oak.3")))

    def test_a_key_calls_a_kind_by_any_of_its_columns(self):
        self.assertEqual(tied(book(KEYED, self.LIKES, ["oak.mark"])), tied(book(KEYED, self.LIKES, ["elm.code"])))

    def test_key_of_two_columns(self):
        made = book(KEYED, self.LIKES, ["elm.code elm.size"])
        self.assertEqual(tied(made), list(pairs("elm.0-oak.0")))
        self.assertEqual(tied(book(KEYED, self.LIKES, ["elm.code oak.size"])), list(pairs("elm.0-oak.0")))

    def test_a_key_that_calls_a_kind_twice_is_as_if_once(self):
        self.assertEqual(tied(book(KEYED, self.LIKES, ["elm.code oak.mark"])),
                         tied(book(KEYED, self.LIKES, ["elm.code"])))

    def test_none_agrees_with_nothing(self):
        made = book(KEYED, self.LIKES, ["elm.code", "elm.size"])
        self.assertEqual(reasons(made, call("elm.2"), call("oak.2")), ([], False, False))
        self.assertEqual(reasons(made, call("elm.3"), call("oak.2")), ([], False, False))
        self.assertEqual(reasons(made, call("elm.3"), call("oak.4")), ([], False, False))

    def test_a_house_without_a_column_of_the_kind_agrees_with_none(self):
        made = book(KEYED, self.LIKES, ["elm.code"])
        self.assertEqual(way(made, call("elm.0"), call("fir.0")), None)
        made = book(KEYED, self.LIKES + " elm.code-fir.far", ["elm.code"])
        self.assertEqual(reasons(made, call("elm.0"), call("fir.0")), ([0], False, False))
        made = book(KEYED, self.LIKES + " elm.code-fir.far", ["elm.code elm.size"])
        self.assertEqual(reasons(made, call("elm.0"), call("fir.0")), ([], False, False))

    def test_without_likes_no_rows_agree(self):
        self.assertEqual(tied(book(KEYED, "", ["elm.code", "elm.size", "oak.mark"])), [])

    def test_rows_of_a_house_are_never_a_tied_pair(self):
        for one, other in tied(book(KEYED, self.LIKES, ["elm.code", "elm.size"])):
            self.assertNotEqual(one[0], other[0])

    def test_of_several_columns_of_a_kind_the_first_counts(self):
        houses = (
            ("elm", table("a", r0=(1,), r1=(2,))),
            ("oak", table("p q", r0=(1, 2), r1=(None, 1), r2=(2, None))),
        )
        made = book(houses, "elm.a-oak.p elm.a-oak.q", ["oak.q"])
        self.assertEqual(tied(made), list(pairs("elm.0-oak.0 elm.1-oak.2")))

    def test_numbers_and_names_are_unlike(self):
        houses = (("elm", table("a", r0=(0,), r1=("a",))), ("oak", table("a", r0=("a",), r1=(0,))))
        made = book(houses, "elm.a-oak.a", ["elm.a"])
        self.assertEqual(tied(made), list(pairs("elm.0-oak.1 elm.1-oak.0")))

    def test_kinds_reach_over_other_houses(self):
        houses = (("a", table("x", r0=(7,))), ("b", table("x")), ("c", table("x", r0=(7,))))
        self.assertEqual(tied(book(houses, "a.x-b.x b.x-c.x", ["b.x"])), list(pairs("a.0-c.0")))


class TiesAndCuts(unittest.TestCase):
    LIKES = "elm.code-oak.mark elm.size-oak.size"

    def test_ties(self):
        made = book(KEYED, ties="elm.0-fir.5 elm.2-oak.2")
        self.assertEqual(tied(made), list(pairs("elm.0-fir.5 elm.2-oak.2")))
        self.assertEqual(reasons(made, call("elm.0"), call("fir.5")), ([], True, False))
        self.assertEqual(reasons(made, call("elm.0"), call("fir.0")), ([], False, False))

    def test_cut_of_a_pair_that_agrees(self):
        made = book(KEYED, self.LIKES, ["elm.code"], cuts="elm.0-oak.4 elm.3-oak.3")
        self.assertEqual(tied(made), list(pairs("elm.0-oak.0 elm.1-oak.1")))
        self.assertEqual(reasons(made, call("elm.0"), call("oak.4")), ([0], False, True))

    def test_cut_of_a_tie(self):
        made = book(KEYED, ties="elm.0-oak.0 elm.2-oak.2", cuts="elm.2-oak.2")
        self.assertEqual(tied(made), list(pairs("elm.0-oak.0")))
        self.assertEqual(reasons(made, call("elm.2"), call("oak.2")), ([], True, True))

    def test_cut_of_a_tie_that_agrees(self):
        made = book(KEYED, self.LIKES, ["elm.code", "elm.size"], ties="elm.0-oak.0", cuts="elm.0-oak.0 elm.1-oak.4")
        self.assertNotIn(calls("elm.0 oak.0"), tied(made))
        self.assertEqual(reasons(made, call("elm.0"), call("oak.0")), ([0, 1], True, True))
        self.assertEqual(reasons(made, call("elm.1"), call("oak.4")), ([], False, True))

    def test_places_of_keys(self):
        made = book(KEYED, self.LIKES, ["elm.code", "elm.code elm.size", "oak.size"])
        self.assertEqual(reasons(made, call("elm.0"), call("oak.0")), ([0, 1, 2], False, False))
        self.assertEqual(reasons(made, call("elm.1"), call("oak.1")), ([0], False, False))
        self.assertEqual(reasons(made, call("elm.2"), call("oak.3")), ([2], False, False))
        self.assertEqual(reasons(made, call("elm.1"), call("fir.0")), ([], False, False))

    def test_reasons_are_a_tuple_of_a_list_and_two_truths(self):
        told = reasons(book(KEYED), call("elm.0"), call("fir.0"))
        self.assertEqual([type(part) for part in told], [list, bool, bool])
        self.assertIsInstance(told, tuple)


class Ways(unittest.TestCase):
    # A ring of six: a.0 - b.0 - c.0 - d.0 - c.1 - b.1 - a.0, and a.1 alone.
    RING = book(bare("a.0 a.1 b.0 b.1 c.0 c.1 d.0"),
                ties="a.0-b.0 b.0-c.0 c.0-d.0 c.1-d.0 b.1-c.1 a.0-b.1")

    def test_to_the_row_itself(self):
        self.assertEqual(way(self.RING, call("a.0"), call("a.0")), [("a", 0)])
        self.assertEqual(way(self.RING, call("a.1"), call("a.1")), [("a", 1)])

    def test_next_rows_in_both_directions(self):
        self.assertEqual(way(self.RING, call("a.0"), call("b.1")), list(calls("a.0 b.1")))
        self.assertEqual(way(self.RING, call("b.1"), call("a.0")), list(calls("b.1 a.0")))

    def test_of_ways_as_short_the_first(self):
        self.assertEqual(way(self.RING, call("a.0"), call("d.0")), list(calls("a.0 b.0 c.0 d.0")))
        self.assertEqual(way(self.RING, call("d.0"), call("a.0")), list(calls("d.0 c.0 b.0 a.0")))

    def test_the_first_way_is_not_the_other_way_round(self):
        # From a.0 the first step decides: b.0, then c.1; from d.0 it is c.0, then b.1.
        made = book(bare("a.0 b.0 b.1 c.0 c.1 d.0"), ties="a.0-b.0 a.0-b.1 b.0-c.1 b.1-c.0 c.0-d.0 c.1-d.0")
        self.assertEqual(way(made, call("a.0"), call("d.0")), list(calls("a.0 b.0 c.1 d.0")))
        self.assertEqual(way(made, call("d.0"), call("a.0")), list(calls("d.0 c.0 b.1 a.0")))

    def test_a_short_way_goes_ahead_of_a_first_one(self):
        made = book(bare("a.0 b.0 c.0 d.0"), ties="a.0-b.0 b.0-c.0 a.0-d.0 c.0-d.0 a.0-c.0")
        self.assertEqual(way(made, call("a.0"), call("c.0")), list(calls("a.0 c.0")))

    def test_over_rows_of_the_same_house(self):
        self.assertEqual(way(self.RING, call("c.0"), call("c.1")), list(calls("c.0 d.0 c.1")))

    def test_none_between_things(self):
        self.assertIsNone(way(self.RING, call("a.0"), call("a.1")))
        self.assertIsNone(way(self.RING, call("a.1"), call("d.0")))

    def test_a_cut_closes_a_way(self):
        made = self.RING[:4] + (pairs("b.0-c.0"),)
        self.assertEqual(way(made, call("a.0"), call("c.0")), list(calls("a.0 b.1 c.1 d.0 c.0")))


class Things(unittest.TestCase):
    def test_rows_alone(self):
        made = book(bare("a.0 a.3 b.1"))
        self.assertEqual(things(made), [calls("a.0"), calls("a.3"), calls("b.1")])
        self.assertEqual(odd_things(made), [])

    def test_without_rows(self):
        made = book((("a", (("x",), ())), ("b", (("x",), ()))), "a.x-b.x", ["a.x"])
        for ask in (tied, things, odd_things):
            self.assertEqual(ask(made), [])

    def test_a_chain_is_one_thing(self):
        made = book(bare("a.0 b.0 b.1 c.0 d.0"), ties="a.0-d.0 b.1-d.0 b.1-c.0")
        self.assertEqual(things(made), [calls("a.0 b.1 c.0 d.0"), calls("b.0")])
        self.assertEqual(odd_things(made), [])

    def test_odd_things(self):
        made = book(bare("a.0 a.1 b.0 b.1 b.2 c.0 c.1"), ties="a.0-b.2 a.0-b.0 a.1-b.1 a.1-c.1 b.1-c.0")
        odd = [calls("a.0 b.0 b.2"), calls("a.1 b.1 c.0 c.1")]
        self.assertEqual(things(made), odd)
        self.assertEqual(odd_things(made), odd)
        made = made[:4] + (pairs("a.0-b.2"),)
        self.assertEqual(things(made), [calls("a.0 b.0"), odd[1], calls("b.2")])
        self.assertEqual(odd_things(made), [odd[1]])

    def test_odd_things_by_keys_and_ties_rise(self):
        houses = (("a", table("x", r0=(1,), r1=(None,))),
                  ("b", table("x", r0=(1,), r1=(1,), r2=(None,), r3=(None,))))
        for cuts in ("", "a.0-b.2"):
            made = book(houses, "a.x-b.x", ["a.x"], "a.1-b.2 a.1-b.3", cuts)
            self.assertEqual(odd_things(made), [calls("a.0 b.0 b.1"), calls("a.1 b.2 b.3")])

    def test_a_cut_pair_may_still_hang_together(self):
        made = book(bare("a.0 b.0 c.0"), ties="a.0-b.0 a.0-c.0 b.0-c.0", cuts="a.0-b.0")
        self.assertEqual(things(made), [calls("a.0 b.0 c.0")])

    def test_keys_and_ties_together(self):
        likes = "elm.code-oak.mark elm.size-oak.size"
        made = book(KEYED, likes, ["elm.code elm.size"], ties="elm.0-fir.5 fir.0-oak.2", cuts="elm.1-oak.1")
        self.assertEqual(things(made), [
            calls("elm.0 fir.5 oak.0"), calls("elm.1"), calls("elm.2"), calls("elm.3"), calls("fir.0 oak.2"),
            calls("oak.1"), calls("oak.3"), calls("oak.4")])

    def test_ids_rise_as_numbers(self):
        made = book(bare("a.2 a.10 b.9"))
        self.assertEqual(things(made), [calls("a.2"), calls("a.10"), calls("b.9")])


class NewAndUnchanged(unittest.TestCase):
    ASKS = (tied, things, odd_things, lambda made: way(made, call("elm.0"), call("oak.3")),
            lambda made: reasons(made, call("elm.0"), call("oak.0"))[0])
    MADE = book(KEYED, "elm.code-oak.mark elm.size-oak.size", ["elm.code", "elm.size"], "elm.3-oak.2", "elm.1-oak.1")

    def test_lists_are_new_ones(self):
        for ask in self.ASKS:
            found = ask(self.MADE)
            self.assertIsInstance(found, list)
            self.assertTrue(found)
            kept = list(found)
            found.clear()
            self.assertEqual(ask(self.MADE), kept)

    def test_parts_of_lists_are_tuples(self):
        for ask in self.ASKS[:4]:
            for part in ask(self.MADE):
                self.assertIsInstance(part, tuple)

    def test_nothing_handed_in_is_changed(self):
        made = copy.deepcopy(self.MADE)
        for ask in self.ASKS + (is_book,):
            ask(made)
        self.assertEqual(made, self.MADE)
        thing = [list(part) for part in BOOK]
        kept = copy.deepcopy(thing)
        is_book(thing)
        is_book(tuple(thing))
        self.assertEqual(thing, kept)


class ByTheWords(unittest.TestCase):
    """Small books made by chance (always the same), each answer found again by trying all that may be."""

    def linked(self, members, links):
        """All pairs of members of which links lead from one to the other."""
        near = {(one, one) for one in members} | set(links) | {(other, one) for one, other in links}
        for mid, one, other in itertools.product(members, repeat=3):
            if (one, mid) in near and (mid, other) in near:
                near.add((one, other))
        return near

    def worth(self, made, row, column, near):
        """The worth of a row at the kind that a column calls, None without one."""
        own, rows = dict(made[0])[row[0]]
        for place, name in enumerate(own):
            if ((row[0], name), column) in near:
                return dict(rows)[row[1]][place]
        return None

    def reasons(self, made, one, other, near):
        found = []
        for place, key in enumerate(made[2]):
            told = [(self.worth(made, one, column, near), self.worth(made, other, column, near)) for column in key]
            if all(left is not None and left == right for left, right in told):
                found.append(place)
        return (found, (one, other) in made[3], (one, other) in made[4])

    def ways(self, rows, near, one, other):
        """The first of the shortest ways, by trying all."""
        if one == other:
            return [one]
        between = [row for row in rows if row not in (one, other)]
        for many in range(len(between) + 1):
            tries = [[one, *mid, other] for mid in itertools.permutations(between, many)]
            found = [rows for rows in tries if all(step in near for step in zip(rows, rows[1:]))]
            if found:
                return min(found)
        return None

    def test_all(self):
        chance = random.Random(5)
        seen = {"tied": 0, "odd": 0, "long": 0}
        for _ in range(400):
            made = chance_book(chance)
            self.assertIs(is_book(made), True)
            columns = [(name, column) for name, (own, _) in made[0] for column in own]
            rows = [(name, number) for name, (_, own) in made[0] for number, _ in own]
            alike = self.linked(columns, made[1])
            every = [(one, other) for one in rows for other in rows if one[0] < other[0]]
            told = {pair: self.reasons(made, *pair, alike) for pair in every}
            for pair in every:
                self.assertEqual(reasons(made, *pair), told[pair])
            links = [pair for pair in every if (told[pair][0] or told[pair][1]) and not told[pair][2]]
            self.assertEqual(tied(made), links)
            joined = self.linked(rows, links)
            hang = sorted({tuple([row for row in rows if (one, row) in joined]) for one in rows})
            self.assertEqual(things(made), hang)
            odd = [thing for thing in hang if len({name for name, _ in thing}) < len(thing)]
            self.assertEqual(odd_things(made), odd)
            near = set(links) | {(other, one) for one, other in links}
            for one, other in itertools.product(rows, repeat=2):
                found = self.ways(rows, near, one, other)
                self.assertEqual(way(made, one, other), found)
                seen["long"] += found is not None and len(found) > 3
            seen["tied"] += len(links)
            seen["odd"] += len(odd)
        # That chance made books of all sorts.
        self.assertTrue(min(seen.values()) > 20, seen)
