"""Promises 2, 3, 9 and 10: rules, the one table, cells at odds."""

import copy
import random
import unittest

from poolbook.errors import Odd, PoolError
from poolbook.houses import kinds, odd_kinds
from poolbook.tables import are_rules, at_odds, one_table
from poolbook.ties import odd_things, things
from samples import (ANYTHING, BOOK, WORDS, bare, book, calls, chance_book, chance_rules, rules, shown_by_words,
                     sound_book, spoilt, stirred, table, told_book)


# Three houses with nine columns, all kinds of one column but for elm.code and oak.mark.
BROAD = book((("elm", table("code size", r0=(1, 2))), ("fir", table("a b c d e")), ("oak", table("mark size"))),
             "elm.code-oak.mark")
GOOD = rules("oak elm fir", "elm.code=most elm.size=only oak.size=first")


class AreRules(unittest.TestCase):
    def right(self, thing, made=BROAD):
        self.assertIs(are_rules(made, thing), True, thing)

    def wrong(self, thing, made=BROAD):
        self.assertIs(are_rules(made, thing), False, thing)

    def test_good_rules(self):
        self.right(GOOD)
        self.right(rules("elm fir oak"))
        self.right((("elm",), ()), book((("elm", table("code")),)))

    def test_trust_in_any_order(self):
        for trust in ("elm fir oak", "elm oak fir", "fir elm oak", "fir oak elm", "oak elm fir", "oak fir elm"):
            self.right(rules(trust))

    def test_trust_is_of_all_houses_and_of_no_other(self):
        for trust in ("", "elm", "elm fir", "fir oak", "elm fir elm", "elm fir oak oak", "elm elm fir oak",
                      "elm fir oak yew", "elm fir yew", "code fir oak"):
            self.wrong(rules(trust))

    def test_each_word(self):
        for word in WORDS:
            self.right(rules("elm fir oak", f"elm.code={word}"))
        for word in ("last", "firs", "First", "firsta", "all", "most ", "", None, True, 1, (), [], ["most"], ("most",)):
            self.wrong((("elm", "fir", "oak"), ((("elm", "code"), word),)))

    def test_at_most_eight_choices(self):
        nine = "elm.code elm.size fir.a fir.b fir.c fir.d fir.e oak.mark oak.size".split()
        for many in range(10):
            told = rules("elm fir oak", " ".join([f"{column}=least" for column in nine[:many]]))
            self.assertIs(are_rules(BROAD, told), many <= 8)
        self.right(rules("elm fir oak", " ".join([f"{column}=least" for column in nine[1:]])))

    def test_columns_are_unlike(self):
        self.wrong(rules("elm fir oak", "elm.code=first elm.code=most"))
        self.wrong(rules("elm fir oak", "elm.code=first elm.code=first"))
        self.wrong(rules("elm fir oak", "elm.code=most elm.code=first"))

    def test_two_columns_may_call_one_kind(self):
        self.right(rules("elm fir oak", "elm.code=first oak.mark=most"))

    def test_columns_are_there(self):
        for column in ("elm.mark", "oak.a", "yew.a", "elm.0", "elm.1"):
            self.wrong(rules("elm fir oak", f"{column}=first"))
        for column in (None, True, 0, "elm", "code", (), ("elm",), ("elm", "code", "code"), ["elm", "code"],
                       ("elm", None), ("elm", True), (None, "code"), ("code", "elm"), (("elm", "code"),)):
            self.wrong((("elm", "fir", "oak"), ((column, "first"),)))

    def test_choices_rise(self):
        self.wrong(rules("elm fir oak", "oak.mark=first elm.code=first"))
        self.wrong(rules("elm fir oak", "elm.code=first fir.c=most fir.b=most"))
        self.right(rules("elm fir oak", "elm.code=only fir.c=first"))

    def test_pairs_have_two_parts(self):
        trust, chosen = GOOD
        self.wrong((trust,))
        self.wrong((trust, chosen, ()))
        self.wrong((chosen, trust))
        self.wrong((trust, ((("elm", "code"),),)))
        self.wrong((trust, ((("elm", "code"), "first", "first"),)))

    def test_each_part_spoilt(self):
        for thing in spoilt(GOOD):
            self.wrong(thing)

    def test_things_of_all_kinds_are_answered(self):
        for thing in ANYTHING:
            self.wrong(thing)
            self.wrong((thing, ()))
            self.assertIs(are_rules(BROAD, (GOOD[0], thing)), thing == (), thing)
        for thing in stirred(GOOD):
            self.assertIsInstance(are_rules(BROAD, thing), bool)

    def test_rules_of_an_odd_book(self):
        odd = book(bare("a.0 b.0 b.1"), ties="a.0-b.0 a.0-b.1")
        self.right(rules("b a", "a.a=only"), odd)
        self.wrong(rules("a"), odd)

    def test_nothing_handed_in_is_changed(self):
        thing = [["elm", "oak"], [[["elm", "code"], "most"]]]
        for told in (thing, tuple(thing), (("oak", "elm", "fir"), thing[1])):
            kept = copy.deepcopy(told)
            self.wrong(told)
            self.assertEqual(told, kept)


class Shown(unittest.TestCase):
    def shown(self, word, trust, *worths):
        """What a word shows of what the houses a, b, .. tell."""
        [(thing, row)] = one_table(told_book(*worths), rules(" ".join(trust), f"a.x={word}"))
        self.assertEqual(thing, tuple([(name, 0) for name in "abcd"[:len(worths)]]))
        self.assertEqual(len(row), 1)
        return row[0]

    def test_first(self):
        self.assertEqual(self.shown("first", "abc", 1, 2, 3), 1)
        self.assertEqual(self.shown("first", "cab", 1, 2, 3), 3)
        self.assertEqual(self.shown("first", "cab", 1, 2, None), 1)
        self.assertEqual(self.shown("first", "cba", 1, None, None), 1)
        self.assertEqual(self.shown("first", "ba", 1, "x"), "x")
        self.assertEqual(self.shown("first", "ab", 0, "x"), 0)

    def test_greatest_and_least(self):
        self.assertEqual(self.shown("greatest", "abc", 2, 10, -3), 10)
        self.assertEqual(self.shown("least", "abc", 2, 10, -3), -3)
        self.assertEqual(self.shown("greatest", "abc", "b", "ab", "c"), "c")
        self.assertEqual(self.shown("least", "abc", "b", "ab", "c"), "ab")
        self.assertEqual(self.shown("greatest", "abc", 10 ** 6, "a", 5), "a")
        self.assertEqual(self.shown("least", "abc", "a", 10 ** 6, "b"), 10 ** 6)
        self.assertEqual(self.shown("greatest", "abc", None, -7, None), -7)
        self.assertEqual(self.shown("least", "abc", None, 7, None), 7)
        self.assertEqual(self.shown("least", "abc", None, 0, 7), 0)

    def test_greatest_and_least_heed_no_trust(self):
        for trust in ("abc", "bca", "cab"):
            self.assertEqual(self.shown("greatest", trust, 1, "x", 2), "x")
            self.assertEqual(self.shown("least", trust, 1, "x", 2), 1)

    def test_most(self):
        self.assertEqual(self.shown("most", "abcd", 1, 2, 2, 3), 2)
        self.assertEqual(self.shown("most", "abcd", "x", None, "x", 3), "x")
        self.assertEqual(self.shown("most", "abc", 1, None, None), 1)

    def test_most_of_several_told_equally_often(self):
        self.assertEqual(self.shown("most", "abcd", 1, 2, 2, 1), 1)
        self.assertEqual(self.shown("most", "bacd", 1, 2, 2, 1), 2)
        self.assertEqual(self.shown("most", "dcba", 1, 2, 2, 1), 1)
        self.assertEqual(self.shown("most", "abc", 5, "x", 3), 5)
        self.assertEqual(self.shown("most", "bca", 5, "x", 3), "x")

    def test_most_heeds_only_those_that_tell_one_of_these(self):
        # b is first in trust, but what it tells is told once only, or it tells nothing.
        self.assertEqual(self.shown("most", "bacd", 1, 2, 1, None), 1)
        self.assertEqual(self.shown("most", "bdac", 1, None, 3, 2), 2)

    def test_only(self):
        self.assertEqual(self.shown("only", "abc", 4, 4, 4), 4)
        self.assertEqual(self.shown("only", "abc", None, 4, 4), 4)
        self.assertEqual(self.shown("only", "abc", None, "x", None), "x")
        self.assertIsNone(self.shown("only", "abc", 4, 4, 5))
        self.assertIsNone(self.shown("only", "abc", 4, None, "x"))
        self.assertIsNone(self.shown("only", "ab", 0, 1))

    def test_none_told(self):
        for word in WORDS:
            self.assertIsNone(self.shown(word, "abc", None, None, None))
            self.assertIsNone(self.shown(word, "a", None))

    def test_a_thing_of_one_row(self):
        for word in WORDS:
            for worth in (0, -4, "x"):
                self.assertEqual(self.shown(word, "a", worth), worth)


# One thing of three rows, elm.1 alone, and oak.7 alone.
TRIPLE = book((
    ("elm", table("code size", r0=(1, "red"), r1=(9, None))),
    ("fir", table("far", r5=(3,))),
    ("oak", table("mark size town", r0=(2, "blue", "ulm"), r7=(2, None, -5))),
), "elm.code-fir.far elm.code-oak.mark elm.size-oak.size", (), "elm.0-oak.0 fir.5-oak.0")
TRIPLE_THINGS = [calls("elm.0 fir.5 oak.0"), calls("elm.1"), calls("oak.7")]


class OneTable(unittest.TestCase):
    def told(self, told, rows, made=TRIPLE, whole=TRIPLE_THINGS):
        self.assertTrue(are_rules(made, told))
        self.assertEqual(one_table(made, told), list(zip(whole, rows)))

    def test_kinds_without_a_choice_have_first(self):
        self.told(rules("elm fir oak"), [(1, "red", "ulm"), (9, None, None), (2, None, -5)])
        self.told(rules("oak fir elm"), [(2, "blue", "ulm"), (9, None, None), (2, None, -5)])
        self.told(rules("fir oak elm"), [(3, "blue", "ulm"), (9, None, None), (2, None, -5)])

    def test_each_kind_by_its_own_word(self):
        self.told(rules("elm fir oak", "elm.code=greatest elm.size=least oak.town=only"),
                  [(3, "blue", "ulm"), (9, None, None), (2, None, -5)])
        self.told(rules("elm fir oak", "elm.code=only oak.size=greatest"),
                  [(None, "red", "ulm"), (9, None, None), (2, None, -5)])

    def test_a_kind_is_called_by_any_of_its_columns(self):
        for column in ("elm.code", "fir.far", "oak.mark"):
            self.told(rules("elm fir oak", f"{column}=greatest"), [(3, "red", "ulm"), (9, None, None), (2, None, -5)])

    def test_where_several_call_one_kind_the_first_counts(self):
        rest = [(9, None, None), (2, None, -5)]
        self.told(rules("oak fir elm", "elm.code=least fir.far=greatest"), [(1, "blue", "ulm")] + rest)
        self.told(rules("oak fir elm", "elm.code=greatest fir.far=least oak.mark=only"), [(3, "blue", "ulm")] + rest)
        self.told(rules("oak fir elm", "fir.far=only oak.mark=least"), [(None, "blue", "ulm")] + rest)

    def test_a_kind_that_no_row_of_a_thing_has(self):
        made = book((("elm", table("a", r0=(1,))), ("oak", table("b", r0=("x",)))))
        self.told(rules("elm oak"), [(1, None), (None, "x")], made, [calls("elm.0"), calls("oak.0")])

    def test_rows_tied_by_keys(self):
        made = book((("elm", table("a b", r0=(1, 7), r1=(2, 8))), ("oak", table("a b", r3=(2, "x"), r4=(None, 9)))),
                    "elm.a-oak.a elm.b-oak.b", ["elm.a"])
        self.told(rules("oak elm"), [(1, 7), (2, "x"), (None, 9)], made,
                  [calls("elm.0"), calls("elm.1 oak.3"), calls("oak.4")])

    def test_without_rows(self):
        made = book((("elm", table("a")), ("oak", table("b"))))
        self.assertEqual(one_table(made, rules("elm oak")), [])
        self.assertEqual(at_odds(made), [])

    def test_lists_are_new_ones(self):
        for ask in (lambda: one_table(TRIPLE, rules("elm fir oak")), lambda: at_odds(TRIPLE)):
            found = ask()
            self.assertIsInstance(found, list)
            kept = list(found)
            found.clear()
            self.assertEqual(ask(), kept)
            self.assertEqual([type(part) for part in kept], [tuple] * len(kept))

    def test_rows_are_tuples(self):
        for thing, row in one_table(TRIPLE, rules("elm fir oak")):
            self.assertIsInstance(thing, tuple)
            self.assertIsInstance(row, tuple)

    def test_nothing_handed_in_is_changed(self):
        made, told = copy.deepcopy(TRIPLE), rules("oak fir elm", "elm.code=most")
        kept = copy.deepcopy(told)
        one_table(made, told)
        at_odds(made)
        self.assertEqual((made, told), (TRIPLE, kept))


class AtOdds(unittest.TestCase):
    def test_cells(self):
        whole = TRIPLE_THINGS[0]
        self.assertEqual(at_odds(TRIPLE), [(whole, 0), (whole, 1)])

    def test_the_same_told_twice_is_not_at_odds(self):
        self.assertEqual(at_odds(told_book(4, 4)), [])
        self.assertEqual(at_odds(told_book("x", None, "x")), [])
        self.assertEqual(at_odds(told_book(None, None)), [])
        self.assertEqual(at_odds(told_book(0)), [])

    def test_none_is_not_at_odds_with_anything(self):
        self.assertEqual(at_odds(told_book(4, None, None)), [])
        self.assertEqual(at_odds(told_book(0, None)), [])
        self.assertEqual(at_odds(told_book(4, None, 5)), [(calls("a.0 b.0 c.0"), 0)])
        self.assertEqual(at_odds(told_book(0, "x")), [(calls("a.0 b.0"), 0)])

    def test_several_things_rise(self):
        houses = (("a", table("p q", r0=(1, 2), r1=(1, 2), r2=(1, 2))),
                  ("b", table("p q", r0=(1, 3), r1=(2, 3), r2=(2, 2))))
        made = book(houses, "a.p-b.p a.q-b.q", (), "a.0-b.0 a.1-b.1 a.2-b.2")
        self.assertEqual(at_odds(made), [(calls("a.0 b.0"), 1), (calls("a.1 b.1"), 0), (calls("a.1 b.1"), 1),
                                         (calls("a.2 b.2"), 0)])

    def test_things_by_keys_and_ties_rise(self):
        houses = (("a", table("p q", r0=(1, 2), r1=(2, 2))), ("b", table("p q", r0=(1, 3), r1=(3, 2))))
        made = book(houses, "a.p-b.p a.q-b.q", ["a.p"], "a.1-b.1")
        self.assertEqual(at_odds(made), [(calls("a.0 b.0"), 1), (calls("a.1 b.1"), 0)])

    def test_things_apart_are_not_at_odds(self):
        houses = (("a", table("p", r0=(1,))), ("b", table("p", r0=(2,))))
        self.assertEqual(at_odds(book(houses, "a.p-b.p")), [])
        # Nor are kinds apart.
        self.assertEqual(at_odds(book(houses, "", (), "a.0-b.0")), [])


class Refused(unittest.TestCase):
    HOUSES = (("elm", table("a", r0=(1,), r1=(2,))), ("oak", table("p q", r0=(1, 2), r1=(None, 1))))
    ODD_LIKES = "elm.a-oak.p elm.a-oak.q"
    ODD_TIES = "elm.1-oak.0 elm.1-oak.1"
    ODD_KIND = calls("elm.a oak.p oak.q")
    ODD_THING = calls("elm.1 oak.0 oak.1")

    def refused(self, made, what):
        for ask in (lambda: one_table(made, rules("elm oak")), lambda: at_odds(made)):
            with self.assertRaises(Odd) as caught:
                ask()
            self.assertEqual(caught.exception.what, what)
            self.assertIsInstance(caught.exception, PoolError)

    def test_an_odd_kind(self):
        self.refused(book(self.HOUSES, self.ODD_LIKES), self.ODD_KIND)

    def test_an_odd_kind_without_rows(self):
        bare_houses = (("elm", table("a")), ("oak", table("p q")))
        self.refused(book(bare_houses, self.ODD_LIKES), self.ODD_KIND)

    def test_an_odd_thing(self):
        self.refused(book(self.HOUSES, "", (), self.ODD_TIES), self.ODD_THING)

    def test_the_first_odd_kind_ahead_of_odd_things(self):
        # As tuples the kind is not ahead of the thing that holds the rows of a house called all.
        houses = (("all", table("a", r0=(1,))),) + self.HOUSES
        self.refused(book(self.HOUSES, self.ODD_LIKES, (), self.ODD_TIES), self.ODD_KIND)
        made = book(houses, self.ODD_LIKES, (), "all.0-elm.0 all.0-elm.1")
        with self.assertRaises(Odd) as caught:
            at_odds(made)
        self.assertEqual(caught.exception.what, self.ODD_KIND)

    def test_of_several_the_first(self):
        houses = (("elm", table("a b", r0=(1, 1), r1=(1, 1))), ("oak", table("p q r s", r0=(1,) * 4, r1=(1,) * 4,
                                                                              r2=(1,) * 4, r3=(1,) * 4)))
        made = book(houses, "elm.b-oak.p elm.b-oak.q elm.a-oak.r elm.a-oak.s")
        self.refused(made, calls("elm.a oak.r oak.s"))
        made = book(houses, "", (), "elm.1-oak.0 elm.1-oak.1 elm.0-oak.2 elm.0-oak.3")
        self.refused(made, calls("elm.0 oak.2 oak.3"))
        # What is told by keys comes ahead of what is told by ties just where it is less.
        houses = (("elm", table("a", r0=(1,), r1=(None,))),
                  ("oak", table("a", r0=(1,), r1=(1,), r2=(None,), r3=(None,))))
        self.refused(book(houses, "elm.a-oak.a", ["elm.a"], "elm.1-oak.2 elm.1-oak.3"), calls("elm.0 oak.0 oak.1"))

    def test_a_thing_that_is_odd_by_a_key_and_a_tie(self):
        self.refused(BOOK, calls("elm.0 oak.1 oak.7"))


class ByTheWords(unittest.TestCase):
    """Books made by chance (always the same), each answer found again as the document's words have it."""

    def told(self, made, thing, kind):
        """What each house of a thing tells of a kind, None for none."""
        found = {}
        for name, number in thing:
            columns, rows = dict(made[0])[name]
            own = [place for place, column in enumerate(columns) if (name, column) in kind]
            if own:
                found[name] = dict(rows)[number][own[0]]
        return found

    def word(self, told, kind):
        return [word for column, word in told[1] if column in kind][:1] or ["first"]

    def test_tables(self):
        chance = random.Random(10)
        seen = {word: 0 for word in WORDS}
        many_odds = 0
        for _ in range(500):
            made = sound_book(chance)
            told = chance_rules(chance, made)
            self.assertIs(are_rules(made, told), True)
            all_kinds, all_things = kinds(made[0], made[1]), things(made)
            expected = []
            odds = []
            for thing in all_things:
                self.assertEqual(len({name for name, _ in thing}), len(thing))
                row = []
                for place, kind in enumerate(all_kinds):
                    by_house = self.told(made, thing, kind)
                    [word] = self.word(told, kind)
                    row.append(shown_by_words(word, told[0], by_house))
                    if len(set(by_house.values()) - {None}) > 1:
                        odds.append((thing, place))
                        seen[word] += 1
                expected.append((thing, tuple(row)))
            self.assertEqual(one_table(made, told), expected)
            self.assertEqual(at_odds(made), odds)
            many_odds += len(odds)
        # That chance made cells at odds of all words.
        self.assertTrue(min(seen.values()) > 20, seen)
        self.assertTrue(many_odds > 200, many_odds)

    def test_refusals(self):
        chance = random.Random(11)
        refused = 0
        for _ in range(300):
            made = chance_book(chance)
            odd = odd_kinds(made[0], made[1]) + odd_things(made)
            told = (tuple([name for name, _ in made[0]]), ())
            for ask in (lambda: one_table(made, told), lambda: at_odds(made)):
                if odd:
                    refused += 1
                    with self.assertRaises(Odd) as caught:
                        ask()
                    self.assertEqual(caught.exception.what, odd[0])
                else:
                    ask()
        self.assertTrue(20 < refused < 500, refused)
