"""[94] claims, their contraries, and their papers."""

import unittest
from random import Random

from by_hand import X, Y, Z, chance_pattern, either, row, star, word
from helpers import JUNK, chance_machine, stopped, wrongs
from test_guessers import CASES as GUESSERS, far_from_the_end
from test_machines import EVEN
from test_middles import EVENS
from test_pairs import ALL_64, JUST_33
from test_tables import BOTH, LAST
from test_universals import TWO
from test_views import B, CASES as VIEWED, NOTHING, ODD
from widefills.answers import is_exact, lost_word
from widefills.claims import claim_words, contrary, is_claim, is_paper_of, is_true, paper_of
from widefills.errors import InvalidClaim, TooMany
from widefills.greatest import greatest, is_greatest, is_right
from widefills.guessers import Guesser, of_use, tells
from widefills.machines import Machine, lets
from widefills.mades import is_losses, is_made, is_making
from widefills.makings import of_words
from widefills.patterns import are_alike, is_mixed
from widefills.readings import is_outside, stays_within
from widefills.tables import Table
from widefills.universals import is_map

ROWS = [("within", "outside"), ("alike", "unlike"), ("right", "wrong"), ("made", "unmade"), ("told", "mistold"),
        ("exact", "inexact")]
TWICE = row(X, X)
# One claim of each row, with its parts.
ONES = [("within", EVENS, 0, TWICE, [[1]]), ("alike", 1, star(X), star(star(X))),
        ("right", BOTH, 2, [(row(X, Y), 0), (X, 1)], [[1], [1, 4]]), ("made", EVENS, 0, TWICE), ("told", EVENS, 0, TWO),
        ("exact", EVEN, [ODD, B])]
# Values that are no Table, position and so on, at the place of a part.
NO_PARTS = JUNK + ("", 4, 99, [], (), [["0"]], EVEN, TWO, BOTH, [EVEN, TWO], ("name", 3), ("word", "d"), [X],
                   [[0]] * 4, [[9]], [(X, 7)], [(X,)], [X, 0], [[True]], Table, {0: 0})


def chance_claims():
    """Claims of each row by chance, first ones of theirs; few classes."""
    found = list(ONES)
    for seed in range(120):
        chance, letters = Random(seed), 1 + seed % 3
        machines = [chance_machine(seed * 5 + place, letters, 1 + (seed + place) % 3) for place in range(1 + seed % 2)]
        try:
            table = Table(machines)
        except TooMany:
            continue
        if table.classes > 6:
            continue
        position, many = chance.randrange(len(machines)), 1 + seed % 2

        def lots(names):
            return [[one for one in range(table.classes) if chance.randrange(2)] for _ in range(names)]

        patterns = [chance_pattern(seed * 9 + place, letters, many, 1 + (seed + place) % 6) for place in range(3)]
        found.append(("within", table, position, patterns[0], lots(many)))
        found.append(("alike", letters, patterns[0], patterns[seed % 2]))
        found.append(("right", table, many, [(pattern, chance.randrange(len(machines))) for pattern in patterns[1:]],
                      lots(many)))
        found.append(("made", table, position, patterns[2]))
        parts = GUESSERS[seed]
        if parts[0] == letters:
            found.append(("told", table, position, Guesser(*parts)))
            found.append(("told", Table([Machine(letters, [[0] * letters], [])]), 0, Guesser(*parts)))
        steps = [[[after] for after in row_of] for row_of in machines[position].steps()]
        found.append(("told", table, position, Guesser(letters, steps + [[[]] * letters], [0], machines[position].ends())))
    found += [("exact", machine, views) for machine, views in VIEWED]
    return found


CLAIMS = chance_claims()


def truth(claim):
    """Whether the first one of its row is true, by what the row says."""
    kind, parts = claim[0], claim[1:]
    if kind == "told":
        return tells(parts[2]) == parts[0].machines()[parts[1]]
    deciders = {"within": stays_within, "alike": are_alike, "right": lambda table, many, sayings, lots:
                is_right(table, sayings, lots), "made": is_made, "exact": is_exact}
    return deciders[kind](*parts)


def truths():
    """(claim, whether it is true), but for those that ask too much."""
    found = []
    for claim in CLAIMS:
        try:
            found.append((claim, truth(claim)))
        except TooMany:
            continue
    return found


TRUTHS = truths()


def other_of(word_of):
    return [other for both in ROWS for word_here, other in (both, both[::-1]) if word_here == word_of][0]


def other_claim(claim):
    return (other_of(claim[0]),) + claim[1:]


def shows(claim, value):
    """Whether the value is a paper of the claim, by what the table of the document says."""
    kind, parts = claim[0], claim[1:]
    if kind == "outside":
        return is_outside(*parts, value)
    if kind == "unlike":
        return is_mixed(parts[0], parts[1], value) is not is_mixed(parts[0], parts[2], value)
    if kind == "right":
        table, many, sayings, lots = parts
        return is_greatest(table, many, sayings, value) and all(set(lot) <= set(more) for lot, more in zip(lots, value))
    if kind == "wrong":
        table, _, sayings, lots = parts
        if not isinstance(value, tuple) or len(value) != 2 or type(value[0]) is not int:
            return False
        if not 0 <= value[0] < len(sayings):
            return False
        pattern, position = sayings[value[0]]
        return is_outside(table, position, pattern, lots, value[1])
    if kind == "made":
        return is_making(*parts, value)
    if kind == "unmade":
        return is_losses(*parts, value)
    table, position, guesser = parts if len(parts) == 3 else (None, None, None)
    if kind == "told":
        machine = table.machines()[position]
        return tells(guesser) == machine and is_map(table, position, of_use(guesser), value)
    if kind == "mistold":
        if not isinstance(value, str) or not set(value) <= set("abc"[:table.letters]):
            return False
        return lets(tells(guesser), value) != lets(table.machines()[position], value)
    return False


def bent(value):
    """The value with one place of it left out, doubled, or exchanged, each place for itself."""
    found = []
    if isinstance(value, (list, tuple)):
        kind = type(value)
        for at, part in enumerate(value):
            found += [kind([*value[:at], *value[at + 1:]]), kind([*value[:at], part, *value[at:]])]
            found += [kind([*value[:at], changed, *value[at + 1:]]) for changed in bent(part)]
        found.append(kind([*value, 0]))
    elif isinstance(value, str):
        found += [value + "a", value + "b", value[1:], "a" + value, None, [value], value + "?"]
    elif isinstance(value, int):
        found += [value + 1, value - 1, str(value), None, [value], bool(value)]
    return found


class Words(unittest.TestCase):

    def test_rows(self):
        told = claim_words()
        self.assertEqual(told, ROWS)
        self.assertEqual([type(told)] + [type(both) for both in told], [list] + [tuple] * 6)
        told.pop()
        self.assertEqual(claim_words(), ROWS)


class IsClaim(unittest.TestCase):

    def test_all_that_are_claims(self):
        for claim in CLAIMS:
            self.assertIs(is_claim(claim), True)
            self.assertIs(is_claim(value=other_claim(claim)), True)

    def test_tuples_for_lists(self):
        for claim in (("within", EVENS, 0, TWICE, ((1,),)), ("right", BOTH, 1, ((X, 0),), ((),)), ("exact", EVEN, (ODD,)),
                      ("wrong", BOTH, 1, ((X, 0),), [()]), ("outside", EVENS, 0, X, ([0], (), [1]))):
            self.assertIs(is_claim(claim), True)

    def test_any_value(self):
        for value in JUNK + (0, "", "within", [], (), ("within",), ["within"], {"within": 0}, EVENS, ("", EVENS, 0, X)):
            self.assertIs(is_claim(value), False)
        for claim in ONES:
            self.assertIs(is_claim(list(claim)), False)
            self.assertIs(is_claim((list(claim),)), False)
            for word_of in ("", "Within", "told ", "true", None, 0, ["within"], ("within",), True, claim):
                self.assertIs(is_claim((word_of,) + claim[1:]), False)

    def test_a_part_too_few_or_too_many(self):
        for claim in ONES + [other_claim(one) for one in ONES]:
            self.assertIs(is_claim(claim), True)
            self.assertIs(is_claim(claim[:-1]), False)
            for more in (None, 0, [], [[1]], X):
                self.assertIs(is_claim(claim + (more,)), False)
            for at in range(1, len(claim)):
                self.assertIs(is_claim(claim[:at] + claim[at + 1:]), False)

    def test_parts_of_other_kinds(self):
        for claim in ONES:
            for at in range(1, len(claim)):
                for value in NO_PARTS:
                    if not isinstance(value, (Machine, Table, Guesser)) or not isinstance(value, type(claim[at])):
                        self.assertIs(is_claim(claim[:at] + (value,) + claim[at + 1:]), False, (claim[0], at, value))

    def test_another_row(self):
        for claim in ONES:
            for other in ONES:
                self.assertIs(is_claim((claim[0],) + other[1:]), claim[0] == other[0])

    def test_names_are_reached(self):
        self.assertIs(is_claim(("within", EVENS, 0, row(X, Y), [[0]])), False)
        self.assertIs(is_claim(("within", EVENS, 0, row(X, Y), [[0], []])), True)
        self.assertIs(is_claim(("within", EVENS, 0, Z, [[0], []])), False)
        self.assertIs(is_claim(("within", EVENS, 0, Z, [[0], [], [1]])), True)
        self.assertIs(is_claim(("right", EVENS, 1, [(X, 0), (Y, 0)], [[0]])), False)
        self.assertIs(is_claim(("right", EVENS, 2, [(X, 0), (Y, 0)], [[0], []])), True)

    def test_many_lots(self):
        for many in (1, 2, 3):
            for lots in range(5):
                self.assertIs(is_claim(("right", EVENS, many, [(word(""), 0)], [[]] * lots)), many == lots)
                self.assertIs(is_claim(("within", EVENS, 0, word(""), [[]] * lots)), 1 <= lots <= 3)

    def test_letters(self):
        self.assertIs(is_claim(("told", EVENS, 0, Guesser(1, [], [], []))), False)
        self.assertIs(is_claim(("mistold", EVENS, 0, Guesser(2, [], [], []))), True)
        self.assertIs(is_claim(("exact", EVEN, [of_words(1, [])])), False)
        self.assertIs(is_claim(("alike", 1, X, word("b"))), False)
        self.assertIs(is_claim(("alike", 2, X, word("b"))), True)
        self.assertIs(is_claim(("made", EVENS, 0, word("c"))), False)
        self.assertIs(is_claim(("made", EVENS, 1, X)), False)
        self.assertIs(is_claim(("made", BOTH, 1, X)), True)

    def test_nothing_more_is_decided(self):
        # None of these is true or false without asking too much.
        big = Table([Machine(2, [[1, 1], [2, 0], [3, 2], [0, 3]], [0])])
        self.assertIs(is_claim(("made", big, 0, either(row(X, Y), Z))), True)


class IsTrue(unittest.TestCase):

    def test_by_what_the_rows_say(self):
        seen = []
        for claim, right in TRUTHS:
            self.assertIs(is_true(claim), right, claim)
            self.assertIs(is_true(claim=other_claim(claim)), not right)
            seen.append((claim[0], right))
        for first, _ in ROWS:
            for right in (True, False):
                self.assertGreater(seen.count((first, right)), 3, first)

    def test_told_by_too_many_states(self):
        self.assertIs(is_true(("told", EVENS, 0, far_from_the_end(39))), False)
        self.assertIs(is_true(("mistold", EVENS, 0, far_from_the_end(39))), True)


class Contrary(unittest.TestCase):

    def test_the_other_word(self):
        for claim, _ in TRUTHS:
            other = contrary(claim)
            self.assertIs(type(other), tuple)
            self.assertEqual(other, other_claim(claim))
            self.assertEqual(contrary(claim=other), claim)
            self.assertIs(is_claim(other), True)
            self.assertIs(is_true(other), not is_true(claim))

    def test_new(self):
        def parts(value):
            inner = [part for one in value for part in parts(one)] if isinstance(value, (list, tuple)) else []
            return ([value] if isinstance(value, list) or value and isinstance(value, tuple) else []) + inner

        for claim, _ in TRUTHS:
            first, second = parts(claim), parts(contrary(claim))
            self.assertEqual([type(one) for one in first], [type(one) for one in second])
            self.assertFalse({id(one) for one in first} & {id(one) for one in second})

    def test_as_passed(self):
        claim = ("right", BOTH, 1, ((X, 0), (TWICE, 0)), [(1, 0)])
        self.assertEqual(contrary(claim), ("wrong", BOTH, 1, ((X, 0), (TWICE, 0)), [(1, 0)]))
        claim = ("exact", EVEN, (ODD, B))
        self.assertEqual(contrary(claim), ("inexact", EVEN, (ODD, B)))
        lots = [[1]]
        other = contrary(("within", EVENS, 0, X, lots))
        other[4][0].append(0)
        self.assertEqual(lots, [[1]])


class Papers(unittest.TestCase):

    def test_told_ones(self):
        seen = {}
        for claim, right in TRUTHS:
            for one, is_so in ((claim, right), (other_claim(claim), not right)):
                if one[0] == "inexact":
                    continue
                paper = paper_of(one)
                if one[0] in ("within", "alike", "exact") or not is_so:
                    self.assertIsNone(paper, one)
                    continue
                self.assertTrue(shows(one, paper), (one, paper))
                self.assertIs(is_paper_of(one, paper), True)
                self.assertIs(is_paper_of(other_claim(one), paper), False)
                seen[one[0]] = seen.get(one[0], 0) + 1
        self.assertEqual(sorted(seen), sorted(["outside", "unlike", "right", "wrong", "made", "unmade", "told", "mistold"]))
        self.assertGreater(min(seen.values()), 4)

    def test_bent_ones(self):
        seen = []
        for claim, right in TRUTHS[::2]:
            one = claim if right else other_claim(claim)
            if one[0] in ("within", "alike", "exact", "inexact"):
                continue
            for value in bent(paper_of(one)):
                wanted = shows(one, value)
                self.assertIs(is_paper_of(one, value), wanted, (one, value))
                self.assertIs(is_paper_of(value=value, claim=other_claim(one)), False)
                seen.append(wanted)
        self.assertGreater(min(seen.count(True), seen.count(False)), 50)

    def test_inexact(self):
        seen = []
        for machine, views in VIEWED:
            claim = ("inexact", machine, views)
            try:
                lost = lost_word(machine, views)
            except TooMany:
                stopped(self, TooMany, paper_of, claim)
                stopped(self, TooMany, is_paper_of, claim, "a")
                stopped(self, TooMany, is_true, claim)
                continue
            paper = paper_of(claim)
            self.assertEqual(paper is None, lost is None)
            if lost is not None:
                self.assertIs(is_paper_of(claim, paper), True)
                self.assertIs(is_paper_of(claim, lost), True)
                self.assertTrue(lets(machine, paper))
                for value in JUNK + ([lost], lost + "?", None):
                    self.assertIs(is_paper_of(claim, value), False)
                seen.append(lost)
            self.assertIs(is_paper_of(("exact", machine, views), lost), False)
            self.assertIsNone(paper_of(("exact", machine, views)))
        self.assertGreater(len(seen), 15)
        # b is let, and no sure view word reads it; aa is let, and read by one; a is not let.
        for value, right in (("b", True), ("aa", False), ("a", False), ("bb", True), ("ab", False), ("", False)):
            self.assertIs(is_paper_of(("inexact", EVEN, [ODD]), value), right)

    def test_by_hand(self):
        out = ("outside", EVENS, 0, TWICE, [[0, 1]])
        self.assertIs(is_paper_of(out, ("behind", ("name", 0, "ba"), ("name", 0, ""))), True)
        self.assertIs(is_paper_of(out, ("behind", ("name", 0, "ba"), ("name", 0, "ab"))), False)
        self.assertIs(is_paper_of(("unlike", 1, X, word("")), [0]), True)
        self.assertIs(is_paper_of(("unlike", 1, X, word("")), ()), True)
        self.assertIs(is_paper_of(("unlike", 1, X, word("")), ["a"]), False)
        right = ("right", EVENS, 1, [(TWICE, 0)], [[]])
        self.assertEqual([is_paper_of(right, value) for value in ([[1]], [[0]], ([1],), [[]], [[0, 1]])],
                         [True, True, True, False, False])
        self.assertEqual([is_paper_of(("right", EVENS, 1, [(TWICE, 0)], [[1]]), value) for value in ([[1]], [[0]])],
                         [True, False])
        wrong = ("wrong", EVENS, 1, [(star(X), 0), (X, 0)], [[1]])
        self.assertEqual([is_paper_of(wrong, value) for value in (
            (1, ("name", 0, "a")), (0, ("name", 0, "a")), (0, ("round", [("name", 0, "a")])),
            [1, ("name", 0, "a")], (True, ("name", 0, "a")), (1, ("name", 0, "b")), (2, ("name", 0, "a")), (1,))],
            [True, False, True, False, False, False, False, False])
        self.assertIs(is_paper_of(("made", EVENS, 0, TWICE), [[0]]), True)
        self.assertIs(is_paper_of(("unmade", EVENS, 0, row(X, word("b"))), [([[0]], "aa")]), True)
        self.assertIs(is_paper_of(("unmade", EVENS, 0, TWICE), []), False)
        self.assertEqual([is_paper_of(("told", EVENS, 0, TWO), value) for value in ([1, 3], (1, 3), [3, 1], [1])],
                         [True, True, False, False])
        self.assertEqual([is_paper_of(("mistold", EVENS, 0, Guesser(2, [], [], [])), value)
                          for value in ("", "b", "aa", "a", "c", [], None)], [True] * 3 + [False] * 4)

    def test_states_of_use_alone(self):
        guesser = Guesser(2, [[[], []]] + [[[at + 1 for at in lot] for lot in part] for part in TWO.steps()], [1], [1])
        claim = ("told", EVENS, 0, guesser)
        self.assertEqual(paper_of(claim), [1, 3])
        self.assertIs(is_paper_of(claim, [1, 3]), True)
        for value in ([0, 1, 3], [2, 1, 3], [1, 3, 0]):
            self.assertIs(is_paper_of(claim, value), False)

    def test_papers_of_what_is_not_true(self):
        # A map of a guesser that does not tell all that is let.
        claim = ("told", EVENS, 0, Guesser(2, [[[], []]], [0], [0]))
        self.assertIs(is_map(EVENS, 0, claim[3], [1]), True)
        self.assertIs(is_paper_of(claim, [1]), False)
        self.assertIsNone(paper_of(claim))
        self.assertIs(is_greatest(EVENS, 1, [(TWICE, 0)], [[0]]), True)
        self.assertIs(is_paper_of(("right", EVENS, 1, [(TWICE, 0)], [[1]]), [[0]]), False)
        self.assertEqual(greatest(EVENS, 1, [(TWICE, 0)]), [[[0]], [[1]]])

    def test_long_mixed_words(self):
        long, more = word("a" * 60), word("a" * 59 + "b")
        claim = ("unlike", 2, row(long, row(long, X)), row(long, row(more, X)))
        paper = paper_of(claim)
        self.assertEqual(len(paper), 121)
        self.assertIs(is_true(claim), True)
        self.assertIs(is_paper_of(claim, paper), True)
        self.assertIs(is_paper_of(claim, tuple(paper)), True)
        self.assertIs(is_paper_of(claim, paper[:-1]), False)
        self.assertIs(is_paper_of(claim, paper[:-1] + [False]), False)
        self.assertIs(is_paper_of(claim, paper + [1]), False)

    def test_long_words(self):
        # Told are all words of a whose length 8 or 9 does not divide: so 72 is the first one that is not, but 0.
        ring = Guesser(1, [[[(at + 1) % 8]] for at in range(8)] + [[[8 + (at + 1) % 9]] for at in range(9)], [0, 8],
                       list(range(1, 8)) + list(range(9, 17)))
        self.assertEqual(paper_of(("mistold", Table([Machine(1, [[0]], [0])]), 0, ring)), "")
        other = Table([Machine(1, [[1], [1]], [1])])
        claim = ("mistold", other, 0, ring)
        self.assertEqual(paper_of(claim), "a" * 72)
        self.assertIs(is_true(claim), True)
        self.assertIs(is_paper_of(claim, "a" * 72), True)
        for value in ("a" * 71, "a" * 144, "a" * 60, ["a" * 72]):
            self.assertIs(is_paper_of(claim, value), False)

    def test_new(self):
        for claim in (("right", EVENS, 1, [(TWICE, 0)], [[]]), ("made", EVENS, 0, TWICE), ("told", EVENS, 0, TWO)):
            paper = paper_of(claim)
            paper.clear()
            self.assertTrue(paper_of(claim))
        claim = ("right", EVENS, 1, [(TWICE, 0)], [[1]])
        paper_of(claim)[0].append(0)
        self.assertEqual(claim, ("right", EVENS, 1, [(TWICE, 0)], [[1]]))

    def test_any_value(self):
        for claim in ONES:
            for one in (claim, other_claim(claim)):
                for value in JUNK + (0, "", (), {}, EVEN, TWO, [None], (None, None), (0, None), ((), ())):
                    self.assertIsInstance(is_paper_of(one, value), bool)
                    if one[0] not in ("alike", "unlike", "made", "unmade", "told", "mistold"):
                        self.assertIs(is_paper_of(one, value), False, (one, value))


class AsksTooMuch(unittest.TestCase):

    def test_made(self):
        big = Table([Machine(2, [[1, 1], [2, 0], [3, 2], [0, 3]], [0])])
        claim = ("made", big, 0, row(X, Y))
        for function, more in ((is_true, []), (paper_of, [])):
            error = stopped(self, TooMany, function, claim, *more)
            self.assertEqual((error.what, error.limit), ("choices", 24))
            stopped(self, TooMany, function, contrary(claim), *more)
        stopped(self, TooMany, is_paper_of, contrary(claim), [])

    def test_told(self):
        for table in (JUST_33, ALL_64):
            machine = table.machines()[0]
            guesser = Guesser(1, [[[after] for after in part] for part in machine.steps()], [0], machine.ends())
            claim = ("told", table, 0, guesser)
            self.assertIs(is_true(claim), True)
            self.assertIsNone(paper_of(contrary(claim)))
            self.assertEqual(stopped(self, TooMany, paper_of, claim).what, "pairs")
            self.assertEqual(stopped(self, TooMany, is_paper_of, claim, []).limit, 32)

    def test_exact(self):
        machine, views = Machine(1, [[1], [2], [2]], [1, 2]), [of_words(1, ["a" * 58, "a" * 57])]
        for word_of in ("exact", "inexact"):
            error = stopped(self, TooMany, is_true, (word_of, machine, views))
            self.assertEqual((error.what, error.limit), ("states", 60))
        stopped(self, TooMany, paper_of, ("inexact", machine, views))
        stopped(self, TooMany, is_paper_of, ("inexact", machine, views), None)
        # These have no papers: nothing is asked.
        self.assertIsNone(paper_of(("exact", machine, views)))
        self.assertIs(is_paper_of(("exact", machine, views), None), False)


class Wrong(unittest.TestCase):

    def test_all(self):
        values = JUNK + (0, "", "within", [], (), list(ONES[0]), ONES[0][:-1], ONES[0] + (0,), ("within",) + ONES[1][1:],
                         ("told", EVENS, 0, Guesser(1, [], [], [])), ("made", EVENS, True, X), ("made", LAST, 0, X),
                         ("alike", True, X, X), ("exact", EVEN, []), ("exact", EVEN, [of_words(1, [])]), EVEN, NOTHING)
        wrong = {"claim": (InvalidClaim, values)}
        for function in (is_true, contrary, paper_of):
            wrongs(self, function, {"claim": ONES[0]}, wrong)
        wrongs(self, is_paper_of, {"claim": ONES[0], "value": None}, wrong)


if __name__ == "__main__":
    unittest.main()
