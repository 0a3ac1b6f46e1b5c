"""Promises 2, 3, 12 and 13: asks, and sums over the things that meet them."""

import copy
import itertools
import random
import unittest

from poolbook.asks import certain, ends, is_ask, possible, shown, total
from poolbook.errors import Odd, PoolError
from poolbook.houses import kinds, odd_kinds
from poolbook.tables import one_table
from poolbook.ties import odd_things, things
from samples import (ANYTHING, ASK_WORDS, BOOK, ENDS, ask, bare, book, call, calls, chance_ask, chance_book,
                     chance_rules, rules, sound_book, spoilt, stirred, table, told_book, worth_place)


class IsAsk(unittest.TestCase):
    def right(self, thing):
        self.assertIs(is_ask(BOOK, thing), True, thing)

    def wrong(self, thing):
        self.assertIs(is_ask(BOOK, thing), False, thing)

    def test_none_to_three_parts(self):
        four = "elm.code:above:1 elm.size:below:red oak.mark:is:0 oak.town:not:ulm"
        for many in range(5):
            self.assertIs(is_ask(BOOK, ask(four)[:many]), many <= 3)
        self.right(ask(four)[1:])

    def test_each_word(self):
        for word in ASK_WORDS:
            self.right(ask(f"elm.code:{word}:1"))
            self.right(ask(f"elm.code:{word}:red"))
        for word in ("", "Is", "is ", "iss", "first", "most", "equal", None, True, 0, (), [], ["is"], ("is",)):
            self.wrong(((("elm", "code"), word, 1),))

    def test_worths(self):
        for worth in (0, 1, -1, 10 ** 6, -10 ** 6, "a", "zzzzzzzz", "code", "is"):
            self.right(((("elm", "code"), "is", worth),))
        for worth in (10 ** 6 + 1, -10 ** 6 - 1, 10 ** 39, None, True, False, "", "A", "a b", "a1", "nineletts", (),
                      (1,), [], [1], ["a"]):
            self.wrong(((("elm", "code"), "is", worth),))
            self.wrong(((("elm", "code"), "above", worth),))

    def test_columns_are_there(self):
        for column in ("elm.mark", "oak.code", "fir.code", "elm.0", "elm.1"):
            self.wrong(((call(column), "is", 1),))
        for column in (None, True, 0, "elm", (), ("elm",), ["elm", "code"], ("elm", "code", "code"), ("code", "elm"),
                       (("elm", "code"),), ("elm", None), ("elm", ["code"])):
            self.wrong(((column, "is", 1),))

    def test_parts_rise(self):
        rising = ask("elm.code:above:1 elm.code:below:1 elm.code:below:2 elm.code:is:-3 elm.code:not:-3 "
                     "elm.size:above:0 oak.mark:above:0")
        for one, other in itertools.combinations(rising, 2):
            self.right((one, other))
            self.wrong((other, one))
        for one, other, more in itertools.combinations(rising, 3):
            self.right((one, other, more))
            for wrong in ((one, more, other), (other, one, more), (other, more, one), (more, one, other)):
                self.wrong(wrong)

    def test_no_part_twice(self):
        for part in ask("elm.code:above:1 elm.code:is:red"):
            self.wrong((part, part))
            self.wrong((part, part, ask("oak.mark:is:1")[0]))
            self.wrong((ask("elm.code:above:-9")[0], part, part))

    def test_numbers_ahead_of_names(self):
        self.right(ask("elm.code:is:1 elm.code:is:a"))
        self.right(ask("elm.code:not:-5 elm.code:not:7 elm.code:not:a"))
        self.right(ask("elm.code:not:1000000 elm.code:not:a elm.code:not:b"))
        self.wrong(ask("elm.code:is:a elm.code:is:1"))
        self.wrong(ask("elm.code:not:-5 elm.code:not:a elm.code:not:7"))
        # As texts 10 is ahead of 9, as numbers it is not.
        self.right(ask("elm.code:not:9 elm.code:not:10"))
        self.wrong(ask("elm.code:not:10 elm.code:not:9"))

    def test_two_parts_of_one_kind(self):
        self.right(ask("elm.code:above:1 oak.mark:below:3"))
        self.right(ask("elm.code:is:1 oak.mark:is:1"))
        self.right(ask("elm.code:is:1 elm.code:not:1"))

    def test_each_part_spoilt(self):
        good = ask("elm.code:above:1 elm.code:above:red oak.town:not:ulm")
        self.right(good)
        for thing in spoilt(good):
            self.wrong(thing)

    def test_parts_have_three_parts(self):
        self.wrong((("elm", "code"), "is", 1))
        self.wrong(((("elm", "code"), "is"),))
        self.wrong(((("elm", "code"), "is", 1, 1),))
        self.wrong((("is", ("elm", "code"), 1),))
        self.wrong((((("elm", "code"), "is", 1),),))
        self.wrong([(("elm", "code"), "is", 1)])
        self.wrong(([("elm", "code"), "is", 1],))

    def test_things_of_all_kinds_are_answered(self):
        for thing in ANYTHING:
            self.assertIs(is_ask(BOOK, thing), thing == ())
            self.wrong((thing,))
        for thing in stirred(ask("elm.code:above:1 oak.town:not:ulm")):
            self.assertIn(is_ask(BOOK, thing), (True, False))

    def test_asks_of_an_odd_book(self):
        odd = book(BOOK[0], "elm.code-oak.mark elm.size-oak.mark", (), "elm.0-oak.0 elm.0-oak.1")
        self.assertIs(is_ask(odd, ask("elm.code:above:1")), True)
        self.assertIs(is_ask(odd, ask("elm.town:above:1")), False)

    def test_nothing_handed_in_is_changed(self):
        made, thing = copy.deepcopy(BOOK), [[["elm", "code"], "is", [1]]]
        is_ask(made, thing)
        self.assertEqual((made, thing), (BOOK, [[["elm", "code"], "is", [1]]]))


def meet_alone(worth, word, bound):
    """Which of the lists shown, certain, possible have the thing of a row that tells this worth."""
    made, asked = told_book(worth), ((("a", "x"), word, bound),)
    whole = [calls("a.0")]
    lists = (shown(made, rules("a"), asked), certain(made, asked), possible(made, asked))
    assert all([found in ([], whole) for found in lists]), lists
    return [found == whole for found in lists]


class Words(unittest.TestCase):
    RISING = (-10 ** 6, -5, 0, 1, 9, 10, 10 ** 6, "a", "ab", "b", "zzzzzzzz")

    def test_each_word_of_numbers_and_of_names(self):
        for one, worth in enumerate(self.RISING):
            for other, bound in enumerate(self.RISING):
                for word, meets in (("above", one > other), ("below", one < other), ("is", one == other),
                                    ("not", one != other)):
                    self.assertEqual(meet_alone(worth, word, bound), [meets] * 3, (worth, word, bound))

    def test_none_meets_nothing(self):
        for bound in self.RISING:
            for word in ASK_WORDS:
                self.assertEqual(meet_alone(None, word, bound), [False] * 3)

    def test_a_kind_of_which_no_row_of_the_thing_has_a_column(self):
        made = book((("a", table("x", r0=(1,))), ("b", table("y", r0=(1,)))))
        for word in ASK_WORDS:
            asked = ask(f"b.y:{word}:0")
            expected = [calls("b.0")] if word in ("above", "not") else []
            self.assertEqual(shown(made, rules("a b"), asked), expected)
            self.assertEqual(certain(made, asked), expected)
            self.assertEqual(possible(made, asked), expected)


# Four houses; c.0 has no column of the kind, and d.0 tells nothing of it.
MIXED = book((("a", table("x y", r0=(1, 5), r1=(4, None))), ("b", table("x y", r0=(3, "red"), r1=(4, 2))),
              ("c", table("z", r0=(7,))), ("d", table("x", r0=(None,), r5=(2,)))),
             "a.x-b.x a.y-b.y b.x-d.x", (), "a.0-b.0 a.1-b.1 b.0-c.0 c.0-d.0")
TWO, ONE, LONE = calls("a.0 b.0 c.0 d.0"), calls("a.1 b.1"), calls("d.5")


class Lists(unittest.TestCase):
    def told(self, text, chosen, sure, may, choices="", made=MIXED, trust="a b c d"):
        """That these things meet an ask by what is shown, by every choice, and by some."""
        asked = ask(text)
        self.assertTrue(is_ask(made, asked))
        self.assertEqual(shown(made, rules(trust, choices), asked), chosen)
        self.assertEqual(certain(made, asked), sure)
        self.assertEqual(possible(made, asked), may)

    def test_without_parts_every_thing_meets_it(self):
        self.assertEqual(things(MIXED), [TWO, ONE, LONE])
        self.told("", [TWO, ONE, LONE], [TWO, ONE, LONE], [TWO, ONE, LONE])
        self.told("", [], [], [], "", book((("a", table("x")),)), "a")

    def test_shown_heeds_the_rules(self):
        self.told("a.x:above:2", [ONE], [ONE], [TWO, ONE])
        self.told("a.x:above:2", [TWO, ONE], [ONE], [TWO, ONE], "a.x=greatest")
        self.told("a.x:above:2", [TWO, ONE], [ONE], [TWO, ONE], "", MIXED, "b a c d")
        self.told("a.x:below:2", [TWO], [], [TWO], "d.x=least")

    def test_only_may_show_none_which_meets_nothing(self):
        for word, bound in (("above", 0), ("below", 9), ("not", 7), ("below", "a")):
            self.told(f"a.x:{word}:{bound}", [ONE, LONE], [TWO, ONE, LONE], [TWO, ONE, LONE], "a.x=only")

    def test_by_any_column_of_the_kind(self):
        for column in ("a.x", "b.x", "d.x"):
            self.told(f"{column}:is:3", [], [], [TWO])
            self.told(f"{column}:is:2", [LONE], [LONE], [LONE])

    def test_none_beside_told_worths_is_no_choice(self):
        # d.0 and a.1 tell nothing of these kinds, and choose nothing therefore.
        self.told("a.x:below:9", [TWO, ONE, LONE], [TWO, ONE, LONE], [TWO, ONE, LONE])
        self.told("a.y:is:2", [ONE], [ONE], [ONE])

    def test_numbers_are_less_than_names(self):
        self.told("a.y:above:1000000", [], [], [TWO])
        self.told("a.y:below:a", [TWO, ONE], [ONE], [TWO, ONE])
        self.told("a.y:above:4", [TWO], [TWO], [TWO])

    def test_parts_of_unlike_kinds(self):
        self.told("a.x:is:3 a.y:is:5", [], [], [TWO])
        self.told("a.x:is:1 c.z:is:7", [TWO], [], [TWO])
        self.told("a.x:above:3 c.z:is:7", [], [], [])
        self.told("a.x:is:4 a.y:is:2", [ONE], [ONE], [ONE])
        self.told("a.x:is:1 a.y:is:red c.z:not:0", [], [], [TWO])

    def test_two_parts_of_one_kind_are_met_by_one_worth(self):
        # 1 is below 2, and 3 is above it, but neither is both.
        self.told("a.x:above:2 b.x:below:2", [], [], [])
        self.told("a.x:above:1 a.x:below:4", [LONE], [LONE], [TWO, LONE])
        self.told("a.x:is:1 d.x:is:3", [], [], [])
        self.told("a.x:not:1 b.x:not:3", [ONE, LONE], [ONE, LONE], [ONE, LONE])
        self.told("a.x:not:1 a.x:not:2 a.x:not:3", [ONE], [ONE], [ONE])
        self.told("a.x:above:0 a.x:above:1 b.x:above:2", [ONE], [ONE], [TWO, ONE])

    def test_things_rise(self):
        made = book(bare("a.2 a.10 b.1 b.3"), "", (), "a.10-b.1")
        self.told("", [calls("a.2"), calls("a.10 b.1"), calls("b.3")], [calls("a.2"), calls("a.10 b.1"), calls("b.3")],
                  [calls("a.2"), calls("a.10 b.1"), calls("b.3")], "", made, "a b")
        # The worth of the first thing is told by its later row only.
        late = book((("a", table("x", r0=(None,), r1=(3,))), ("b", table("x", r0=(3,)))), "a.x-b.x", (), "a.0-b.0")
        both = [calls("a.0 b.0"), calls("a.1")]
        self.told("a.x:is:3", both, both, both, "", late, "a b")

    def test_lists_are_new_ones(self):
        asked = ask("a.x:below:9")
        for tell in (lambda: shown(MIXED, rules("a b c d"), asked), lambda: certain(MIXED, asked),
                     lambda: possible(MIXED, asked), lambda: possible(MIXED, ())):
            found = tell()
            self.assertIsInstance(found, list)
            self.assertTrue(all([isinstance(thing, tuple) for thing in found]))
            found.clear()
            self.assertEqual(tell(), [TWO, ONE, LONE])


class Sums(unittest.TestCase):
    def told(self, text, column, whole, least, greatest, choices="", made=MIXED, trust="a b c d"):
        """That this is the sum by what is shown, and these its ends."""
        asked = ask(text)
        self.assertTrue(is_ask(made, asked))
        found = total(made, rules(trust, choices), asked, call(column))
        self.assertEqual(found, whole)
        self.assertIsInstance(found, int)
        self.assertEqual(ends(made, asked, call(column)), (least, greatest))
        self.assertIsInstance(ends(made, asked, call(column)), tuple)

    def test_of_every_thing(self):
        self.told("", "a.x", 1 + 4 + 2, 1 + 4 + 2, 3 + 4 + 2)
        self.told("", "d.x", 3 + 4 + 2, 1 + 4 + 2, 3 + 4 + 2, "a.x=greatest")
        self.told("", "c.z", 7, 7, 7)

    def test_names_and_none_add_nothing(self):
        self.told("", "a.y", 5 + 2, 0 + 2, 5 + 2)
        self.told("", "a.y", 0 + 2, 0 + 2, 5 + 2, "", MIXED, "b a c d")
        self.told("", "a.x", 4 + 2, 7, 9, "a.x=only")
        self.told("a.x:is:2", "c.z", 0, 0, 0)
        self.told("a.x:is:2", "a.y", 0, 0, 0)
        self.told("", "a.x", 0, 0, 0, "", told_book("x", None), "a b")

    def test_no_thing_at_all(self):
        self.told("", "a.x", 0, 0, 0, "", book((("a", table("x")),)), "a")
        self.told("a.x:above:9", "a.x", 0, 0, 0)
        self.told("a.x:above:9", "c.z", 0, 0, 0)

    def test_the_column_is_of_a_kind_asked(self):
        # Of the first thing 1 or 3 may be chosen; 1 does not meet the ask, and so adds nothing.
        self.told("a.x:above:2", "a.x", 4, 4, 3 + 4)
        self.told("a.x:above:2", "d.x", 3 + 4, 4, 3 + 4, "b.x=greatest")
        self.told("a.x:below:3", "a.x", 1 + 2, 0 + 2, 1 + 2)
        self.told("a.x:above:0 b.x:below:9", "a.x", 1 + 4 + 2, 1 + 4 + 2, 3 + 4 + 2)
        self.told("a.x:above:2 b.x:below:4", "a.x", 0, 0, 3)

    def test_the_column_is_of_no_kind_asked(self):
        self.told("a.y:is:5", "a.x", 1, 0, 3)
        self.told("a.y:above:4", "a.x", 1, 1, 3)
        self.told("a.x:is:3", "c.z", 0, 0, 7)
        self.told("a.x:is:3", "c.z", 7, 0, 7, "", MIXED, "b a c d")

    def test_one_worth_for_the_ask_and_the_sum_alike(self):
        # 3 meets it, and 1 does not: so 1 is never added, and 3 not always.
        self.told("a.x:is:3 a.y:is:5", "a.x", 0, 0, 3)
        self.told("a.x:not:1 a.y:is:5", "a.x", 0, 0, 3)
        self.told("a.x:is:3 a.y:above:0", "a.x", 0, 0, 3)
        self.told("a.x:below:9 a.y:is:5", "a.x", 1, 0, 3)

    def test_numbers_below_0(self):
        made = told_book(-3, 2, -7)
        for text, whole, least, greatest in (("", -3, -7, 2), ("a.x:below:0", -3, -7, 0), ("a.x:above:0", 0, 0, 2),
                                             ("a.x:not:2", -3, -7, 0), ("a.x:is:-3", -3, -3, 0),
                                             ("a.x:not:x", -3, -7, 2)):
            self.told(text, "b.x", whole, least, greatest, "", made, "a b c")
        self.told("", "a.x", -5, -5, -3, "", told_book(-5, -3), "a b")
        self.told("", "a.x", -5, -5, 0, "", told_book(-5, "x"), "a b")
        self.told("", "a.x", -5, -5, -5, "", told_book(-5, None), "a b")
        several = book((("a", table("x y", r0=(-4, 1), r1=(-4, 2), r2=(-4, "x"), r3=(6, None))),))
        self.told("a.y:above:1", "a.x", -8, -8, -8, "", several, "a")

    def test_far_sums(self):
        first = ENDS[0]
        rows = {f"r{number}": (first,) for number in range(8)}
        made = book((("a", table("x", **rows)), ("b", table("x", **rows))), "a.x-b.x")
        self.told("", "a.x", 16 * first, 16 * first, 16 * first, "", made, "a b")


class Refused(unittest.TestCase):
    HOUSES = bare("a.0 a.1 b.0 b.1 c.0")

    def odd(self, made, what):
        asked, told, column = ask("a.a:is:1"), rules("a b c"), call("b.a")
        for tell in (lambda: shown(made, told, asked), lambda: certain(made, asked), lambda: possible(made, asked),
                     lambda: total(made, told, asked, column), lambda: ends(made, asked, column),
                     lambda: shown(made, told, ()), lambda: certain(made, ()), lambda: possible(made, ()),
                     lambda: total(made, told, (), column), lambda: ends(made, (), column)):
            with self.assertRaises(Odd) as caught:
                tell()
            self.assertIsInstance(caught.exception, PoolError)
            self.assertEqual(caught.exception.what, calls(what))

    def test_an_odd_thing(self):
        self.odd(book(self.HOUSES, "a.a-b.a", (), "a.0-b.0 a.0-b.1"), "a.0 b.0 b.1")
        self.odd(book(self.HOUSES, "", (), "a.1-b.1 a.1-b.0 a.0-c.0"), "a.1 b.0 b.1")

    def test_an_odd_kind_ahead_of_odd_things(self):
        houses = (("a", table("a b", r0=(1, 1))), ("b", table("a", r0=(1,), r1=(1,))), ("c", table("a")))
        self.odd(book(houses, "a.a-b.a a.b-b.a"), "a.a a.b b.a")
        self.odd(book(houses, "a.a-b.a a.b-b.a", (), "a.0-b.0 a.0-b.1"), "a.a a.b b.a")

    def test_nothing_handed_in_is_changed(self):
        made, told, asked = copy.deepcopy(MIXED), rules("b a c d", "a.x=most"), ask("a.x:above:1 b.x:below:9")
        kept = copy.deepcopy((told, asked))
        for tell in (lambda: shown(made, told, asked), lambda: certain(made, asked), lambda: possible(made, asked),
                     lambda: total(made, told, asked, call("a.x")), lambda: ends(made, asked, call("a.x"))):
            self.assertEqual(tell(), tell())
        self.assertEqual((made, (told, asked)), (MIXED, kept))


def crowded_book(chance):
    """A book with two things of a row of each house, and two kinds, so that much is at odds."""
    names = "abcd"[:chance.randint(2, 4)]
    worths = chance.choice(((-2, 1, 3, "x", None), (-2, -1, 2, 3), (1, 2, 2, None, None)))
    rows = [[tuple(chance.choices(worths, k=2)) for _ in "01"] for _ in names]
    houses = tuple([(name, table("p q", r0=first, r1=second)) for name, (first, second) in zip(names, rows)])
    steps = list(zip(names, names[1:]))
    return book(houses, " ".join([f"{one}.{part}-{other}.{part}" for one, other in steps for part in "pq"]), (),
                " ".join([f"{one}.{part}-{other}.{part}" for one, other in steps for part in "01"]))


def choices_of(made, all_kinds, thing):
    """The list of all choices of a thing, each a tuple of a worth, or None, for each kind, read off the document."""
    rows = {(name, number): dict(zip(columns, row)) for name, (columns, own) in made[0] for number, row in own}
    lists = []
    for kind in all_kinds:
        told = [rows[row][column] for row in thing for name, column in kind if name == row[0]]
        lists.append(sorted(set([worth for worth in told if worth is not None]), key=worth_place) or [None])
    return list(itertools.product(*lists))


def meets(all_kinds, asked, worths):
    """Whether worths, one or None for each kind, meet an ask."""
    for column, word, bound in asked:
        worth = [worth for kind, worth in zip(all_kinds, worths) if column in kind][0]
        if worth is None:
            return False
        one, other = worth_place(worth), worth_place(bound)
        if not {"above": one > other, "below": one < other, "is": one == other, "not": one != other}[word]:
            return False
    return True


class ByTheWords(unittest.TestCase):
    """Books made by chance (always the same), each answer found again by trying all choices."""

    def tried(self, made, told, asked, column):
        all_kinds = kinds(made[0], made[1])
        place = [column in kind for kind in all_kinds].index(True)
        table_rows = one_table(made, told)
        by_shown = [thing for thing, row in table_rows if meets(all_kinds, asked, row)]
        added = [row[place] for thing, row in table_rows if thing in by_shown and isinstance(row[place], int)]
        every, some = [], []
        sums = {0}
        for thing, _ in table_rows:
            tries = [(meets(all_kinds, asked, worths), worths[place]) for worths in choices_of(made, all_kinds, thing)]
            every += [thing] if all([met for met, _ in tries]) else []
            some += [thing] if any([met for met, _ in tries]) else []
            adds = set([worth if met and isinstance(worth, int) else 0 for met, worth in tries])
            sums = set([before + add for before in sums for add in adds])
        return by_shown, every, some, sum(added), (min(sums), max(sums))

    def test_books(self):
        chance = random.Random(21)
        seen = {"unsure": 0, "apart": 0, "twice": 0, "wide": 0, "below": 0}
        for turn in range(2400):
            made = (sound_book, chance_book, crowded_book)[turn % 3](chance)
            if odd_kinds(made[0], made[1]) or odd_things(made):
                continue
            told = chance_rules(chance, made)
            asked = chance_ask(chance, made)
            column = chance.choice([column for kind in kinds(made[0], made[1]) for column in kind])
            self.assertTrue(is_ask(made, asked), asked)
            by_shown, every, some, whole, low_and_high = self.tried(made, told, asked, column)
            self.assertEqual(shown(made, told, asked), by_shown)
            self.assertEqual(certain(made, asked), every)
            self.assertEqual(possible(made, asked), some)
            self.assertEqual(total(made, told, asked, column), whole)
            self.assertEqual(ends(made, asked, column), low_and_high)
            self.within(made, told, asked, column, by_shown, every, some)
            seen["unsure"] += every != some
            seen["apart"] += by_shown not in (every, some)
            seen["twice"] += len(set([part[0] for part in asked])) < len(asked)
            seen["wide"] += low_and_high[0] < whole < low_and_high[1]
            seen["below"] += low_and_high[0] < 0
        self.assertTrue(min(seen.values()) > 20, seen)

    def within(self, made, told, asked, column, by_shown, every, some):
        """What holds of all asks: certain within possible, and with one part less each list has all that it had."""
        self.assertTrue(set(every) <= set(some))
        if all([word != "only" for _, word in told[1]]):
            # What is shown is then one of the choices.
            self.assertTrue(set(every) <= set(by_shown) <= set(some))
            least, greatest = ends(made, asked, column)
            self.assertTrue(least <= total(made, told, asked, column) <= greatest)
        for at in range(len(asked)):
            less = asked[:at] + asked[at + 1:]
            self.assertTrue(set(by_shown) <= set(shown(made, told, less)))
            self.assertTrue(set(every) <= set(certain(made, less)))
            self.assertTrue(set(some) <= set(possible(made, less)))
