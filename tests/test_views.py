"""[81], [82], [83] view words: their readings, which of them are sure, leavings."""

import unittest
from itertools import product as all_of
from random import Random

from helpers import JUNK, all_words, chance_machine, led, stopped, told, wrongs
from test_guessers import far_from_the_end
from test_machines import EVEN, WRONG_MACHINES
from widefills.errors import InvalidMachine, InvalidViews, InvalidWord, TooMany, UnlikeLetters
from widefills.guessers import tells
from widefills.machines import Machine, is_empty, lets, words_of
from widefills.makings import behind, is_within, joined, met, of_words, rounds
from widefills.tables import Table
from widefills.views import is_leaving, is_sure, leaving, opened, readings_of

ODD, B = Machine(2, [[1, 0], [0, 1]], [1]), of_words(2, ["b"])
NOTHING, EMPTY_WORD = of_words(2, []), of_words(2, [""])
WRONG_VIEWS = (InvalidViews, JUNK + (
    0, "", [], (), EVEN, [EVEN, None], [None], [EVEN] * 4, (EVEN,) * 4, [EVEN, of_words(1, [])], [of_words(3, []), EVEN],
    [[EVEN]], [(EVEN, ODD)], {0: EVEN}, Table([EVEN]), [Table([EVEN])], ["a"], [True], [Machine], [EVEN, ODD, EVEN, B]))
# Of two views.
WRONG_VIEW_WORDS = (InvalidWord, JUNK + ("c", "abc", "a" * 61, " ", "A", 0, 1, [], ["a"], ("a",), (), "-"))


def chance_view(seed, letters):
    """Machines of all kinds: by chance, of few words, of one with the empty word, of none."""
    chance = Random(seed)
    words = ["".join(chance.choice("abc"[:letters]) for _ in range(chance.randrange(4))) for _ in range(3)]
    return (chance_machine(seed, letters, 1 + seed % 4), of_words(letters, words), of_words(letters, [""] + words[:1]),
            of_words(letters, []), of_words(letters, words[:1]))[chance.randrange(5)]


def cases():
    """(machine, views), the same ones each time."""
    found = []
    for seed in range(90):
        letters, many = 1 + seed % 3, 1 + seed // 3 % 3
        found.append((chance_machine(seed, letters, 1 + seed % 5),
                      [chance_view(seed * 7 + place, letters) for place in range(many)]))
    return found


CASES = cases()


def readings_by_hand(views, word):
    """The Machine of the readings, each view behind the others; None if one of these has too many states."""
    found = of_words(views[0].letters, [""])
    for sign in word:
        try:
            found = behind(found, views["abc".index(sign)])
        except TooMany:
            return None
    return found


def by_machines():
    """(machine, views, view word, Machine of the readings)"""
    told_ones = [(machine, views, word, readings_by_hand(views, word)) for machine, views in CASES
                 for word in all_words(len(views), 3) + ["a" * 5]]
    return [case for case in told_ones if case[3] is not None]


def read_by_hand(views, word, length):
    """The readings of at most this length, piece by piece."""
    found = {""}
    for sign in word:
        view = views["abc".index(sign)]
        pieces = told(view.letters, view.steps(), view.ends(), length)
        found = {one + piece for one in found for piece in pieces if len(one + piece) <= length}
    return sorted(found, key=lambda one: (len(one), one))


def is_leaving_by_hand(machine, views, word, value):
    if not isinstance(value, list) or len(value) != len(word):
        return False
    for sign, piece in zip(word, value):
        view = views["abc".index(sign)]
        if led(view.steps(), piece) not in view.ends():
            return False
    return led(machine.steps(), "".join(value)) not in machine.ends()


class Readings(unittest.TestCase):

    def test_by_words(self):
        for _, views, word, _ in by_machines():
            length = 4 if views[0].letters == 3 else 5
            self.assertEqual(words_of(readings_of(views, word), length), read_by_hand(views, word, length))

    def test_by_machines(self):
        for _, views, word, wanted in by_machines():
            self.assertEqual(readings_of(tuple(views), word), wanted)

    def test_empty_view_word(self):
        for letters in (1, 2, 3):
            for view in (of_words(letters, []), of_words(letters, [""]), Machine(letters, [[0] * letters], [0])):
                self.assertEqual(readings_of([view], ""), of_words(letters, [""]))
                self.assertEqual(readings_of(word="", views=[view, view]), of_words(letters, [""]))

    def test_empty_view(self):
        for word in ("b", "ab", "ba", "bb", "aba"):
            self.assertIs(is_empty(readings_of([ODD, NOTHING], word)), True)
        self.assertEqual(readings_of([ODD, NOTHING], "a"), ODD)

    def test_views_with_the_empty_word(self):
        ends = of_words(2, ["", "ab"])
        self.assertEqual(words_of(readings_of([ends], "aaa"), 6), ["", "ab", "abab", "ababab"])
        self.assertEqual(readings_of([ends, EMPTY_WORD], "bbabb"), ends)
        self.assertEqual(readings_of([ends, rounds(B)], "bab"), behind(rounds(B), behind(ends, rounds(B))))
        self.assertEqual(readings_of([EMPTY_WORD], "a" * 60), EMPTY_WORD)

    def test_pieces_of_several_signs(self):
        one, two = of_words(2, ["ab", "bba"]), of_words(2, ["", "aa"])
        self.assertEqual(words_of(readings_of([one, two], "ab"), 5), ["ab", "bba", "abaa", "bbaaa"])
        self.assertEqual(words_of(readings_of([one, two], "ba"), 5), ["ab", "bba", "aaab", "aabba"])

    def test_which_letters(self):
        # The view words have letters by the views, their readings those of the views.
        views = [of_words(1, ["a"]), of_words(1, ["aa"]), of_words(1, ["aaa"])]
        self.assertEqual(readings_of(views, "abc"), of_words(1, ["a" * 6]))
        self.assertEqual(readings_of([of_words(3, ["c"])], "aa"), of_words(3, ["cc"]))

    def test_long_ones(self):
        everything = Machine(2, [[0, 0]], [0])
        self.assertEqual(readings_of([everything], "a" * 60), everything)
        self.assertEqual(readings_of([of_words(1, ["a"])], "a" * 58), readings_by_hand([of_words(1, ["a"])], "a" * 58))
        self.assertEqual(readings_of([of_words(1, ["a"])], "a" * 58).states, 60)
        for many in (59, 60):
            error = stopped(self, TooMany, readings_of, [of_words(1, ["a"])], "a" * many)
            self.assertEqual((error.what, error.limit), ("states", 60))

    def test_many_on_the_way_few_at_the_end(self):
        # What stands behind far words has too many states, with everything behind it but few.
        everything, a, letter = Machine(2, [[0, 0]], [0]), of_words(2, ["a"]), of_words(2, ["a", "b"])
        views = [everything, a, letter]
        for many in (5, 6, 20):
            stopped(self, TooMany, readings_of, views, "ab" + "c" * many)
            self.assertEqual(readings_of(views, "ab" + "c" * many + "a").states, many + 2)
        self.assertEqual(readings_of(views, "abcccc"), tells(far_from_the_end(5)))

    def test_new_and_kept(self):
        views = [ODD, B]
        readings_of(views, "ab")
        self.assertEqual(views, [ODD, B])
        self.assertEqual(readings_of(views, "ab"), readings_of(views, "ab"))


class Opened(unittest.TestCase):

    def test_by_hand(self):
        """All view words of at most this length; with views without the empty word these tell all short words."""
        for seed, (_, views) in enumerate(CASES):
            machine = chance_machine(seed + 50, len(views), 1 + seed % 5)
            told_lot, length = opened(views, machine), 3
            view_words = words_of(machine, 3)
            if not any(lets(view, "") for view in views):
                wanted = {one for word in view_words for one in read_by_hand(views, word, length)}
                self.assertEqual(set(words_of(told_lot, length)), wanted)
            for readings in [readings_by_hand(views, word) for word in view_words]:
                self.assertTrue(readings is None or is_within(readings, told_lot))

    def test_finite_lots(self):
        for seed, (_, views) in enumerate(CASES):
            chance = Random(seed)
            words = ["".join(chance.choice("abc"[:len(views)]) for _ in range(chance.randrange(4))) for _ in range(3)]
            wanted = of_words(views[0].letters, [])
            readings = [readings_by_hand(views, word) for word in words]
            if None not in readings:
                for one in readings:
                    wanted = joined(wanted, one)
                self.assertEqual(opened(tuple(views), of_words(len(views), words)), wanted)

    def test_rounds(self):
        for _, views in CASES:
            try:
                wanted = rounds(views[0])
            except TooMany:
                continue
            everything = rounds(of_words(len(views), ["a"]))
            self.assertEqual(opened(views, everything), wanted)

    def test_empty_ones(self):
        for letters in (1, 2, 3):
            views = [chance_machine(3, 2, 3)] * letters
            self.assertEqual(opened(views, of_words(letters, [])), NOTHING)
            self.assertEqual(opened(machine=of_words(letters, [""]), views=views), EMPTY_WORD)
        self.assertEqual(opened([NOTHING], Machine(1, [[1], [0]], [0])), EMPTY_WORD)
        self.assertEqual(opened([NOTHING], Machine(1, [[1], [0]], [1])), NOTHING)
        self.assertEqual(opened([EMPTY_WORD], Machine(1, [[1], [1]], [1])), EMPTY_WORD)
        self.assertEqual(opened([EMPTY_WORD, B], of_words(2, ["aab", "ba", "aaa"])), of_words(2, ["", "b"]))

    def test_idle_views_in_rings(self):
        # The first view has the empty word alone: its sign leads on without a piece, also round and round.
        machine = Machine(2, [[1, 0], [2, 2], [0, 1]], [1])
        self.assertEqual(words_of(opened([EMPTY_WORD, of_words(2, ["ab"])], machine), 4), ["", "ab", "abab"])
        ring = Machine(2, [[1, 3], [2, 3], [0, 4], [3, 3], [4, 3]], [4])
        self.assertEqual(words_of(opened([EMPTY_WORD, of_words(2, ["ab"])], ring), 6), ["ab"])

    def test_unlike_letters(self):
        for views, machine in (([EVEN], EVEN), ([EVEN, ODD], of_words(1, [])), ([EVEN] * 3, EVEN), ([EVEN], of_words(3, []))):
            stopped(self, UnlikeLetters, opened, views, machine)
            stopped(self, UnlikeLetters, opened, machine=machine, views=views)
        stopped(self, InvalidMachine, opened, [EVEN], [EVEN])
        stopped(self, InvalidViews, opened, [EVEN, of_words(1, [])], EVEN)

    def test_too_many_states(self):
        for many, states in ((1, 60), (2, 119)):
            views, long = [of_words(1, ["a" * many])], of_words(1, ["a" * 58])
            if states <= 60:
                self.assertEqual(opened(views, long), long)
                self.assertEqual(long.states, states)
            else:
                error = stopped(self, TooMany, opened, views, long)
                self.assertEqual((error.what, error.limit), ("states", 60))
        stopped(self, TooMany, opened, [of_words(1, ["a" * 58])], of_words(1, ["a", "aa"]))
        self.assertEqual(opened([of_words(1, ["a" * 29])], of_words(1, ["aa"])), of_words(1, ["a" * 58]))


class Sure(unittest.TestCase):

    def test_by_machines(self):
        seen = []
        for machine, views, word, readings in by_machines():
            wanted = is_within(readings, machine)
            self.assertIs(is_sure(machine, views, word), wanted)
            self.assertIs(is_sure(machine, tuple(views), word), wanted)
            self.assertIs(leaving(machine, views, word) is None, wanted)
            seen.append(wanted)
        self.assertGreater(min(seen.count(True), seen.count(False)), 300)

    def test_empty_view_word(self):
        for machine, views in CASES:
            self.assertIs(is_sure(machine, views, ""), lets(machine, ""))
            self.assertEqual(leaving(machine, views, ""), None if lets(machine, "") else [])

    def test_empty_view(self):
        for machine in (EVEN, ODD, NOTHING, EMPTY_WORD):
            for word in ("b", "ab", "ba", "abba"):
                self.assertIs(is_sure(machine, [ODD, NOTHING], word), True)
                self.assertIsNone(leaving(machine, [ODD, NOTHING], word))
                self.assertIs(is_leaving(machine, [ODD, NOTHING], word, ["a"] * len(word)), False)

    def test_long_ones(self):
        self.assertIs(is_sure(EVEN, [ODD], "a" * 60), True)
        self.assertIs(is_sure(EVEN, [ODD], "a" * 59), False)
        self.assertIs(is_sure(word="ba" * 30, views=[ODD, B], machine=EVEN), True)
        stopped(self, InvalidWord, is_sure, EVEN, [ODD], "a" * 61)


class Leaving(unittest.TestCase):

    def test_by_hand(self):
        for machine, views in CASES:
            for word in all_words(len(views), 3) + ["a" * 6]:
                value = leaving(machine, views, word)
                if value is not None:
                    self.assertTrue(is_leaving_by_hand(machine, views, word, value))
                    self.assertIs(is_leaving(machine, views, word, value), True)
                    self.assertIs(is_leaving(machine, tuple(views), word, tuple(value)), True)
                    self.assertEqual([type(value)] + [type(piece) for piece in value], [list] + [str] * len(word))

    def test_all_lists_of_pieces(self):
        seen = []
        for machine, views in CASES[::3]:
            letters = views[0].letters
            for word in all_words(len(views), 2):
                for value in all_of(all_words(letters, 2), repeat=len(word)):
                    right = is_leaving_by_hand(machine, views, word, list(value))
                    self.assertIs(is_leaving(machine, views, word, list(value)), right)
                    seen.append(right)
        self.assertGreater(min(seen.count(True), seen.count(False)), 150)

    def test_pieces_of_whatever_length(self):
        view, machine = Machine(1, [[1], [0]], [0]), Machine(1, [[1], [2], [0]], [0])
        for piece in ("a" * 62, "a" * 2000, "a" * 4000):
            self.assertIs(is_leaving(machine, [view], "a", [piece]), len(piece) % 3 != 0)
        self.assertIs(is_leaving(machine, [view], "aa", ["a" * 62, "a" * 64]), False)
        self.assertIs(is_leaving(machine, [view], "aa", ["a" * 62, "a" * 66]), True)
        # The shortest word that leads far round: longer than any word that may be passed.
        far = Machine(1, [[(state + 1) % 11] for state in range(11)], [0])
        rest = Machine(1, [[(state + 1) % 12] for state in range(12)], [state for state in range(12) if state != 11])
        value = leaving(rest, [far], "a")
        self.assertEqual(value, ["a" * 11])
        rest = Machine(1, [[(state + 1) % 12] for state in range(12)], [state for state in range(12) if state != 1])
        self.assertEqual(leaving(rest, [far], "a"), ["a" * 121])
        self.assertIs(is_leaving(rest, [far], "a", ["a" * 121]), True)

    def test_any_value(self):
        self.assertIs(is_leaving(EVEN, [ODD, B], "ab", ["ba", "b"]), True)
        self.assertIs(is_leaving(EVEN, [ODD, B], "ab", ("ba", "b")), True)
        self.assertIs(is_leaving(value=["ba", "b"], word="ab", views=(ODD, B), machine=EVEN), True)
        for value in JUNK + (
                0, "", "ab", "bab", ("ba",), ["ba"], [], (), ["ba", "b", ""], ["ba", "b", "b"], ["b", "ba"], ["ba", "ba"],
                ["ba", None], ["ba", ["b"]], [["ba"], ["b"]], ["ba", b"b"], ["ca", "b"], ["ba", "c"], ["ba ", "b"],
                ["ba", "bb"], ["", "b"], {"ba": 0, "b": 1}, [True, "b"], [0, 1], ["A", "b"], [ODD, B]):
            self.assertIs(is_leaving(EVEN, [ODD, B], "ab", value), False, value)
        for value in ("a", ["aa"], ["a", "a"], [""], ["aab"], None):
            self.assertIs(is_leaving(EVEN, [ODD], "a", value), False, value)
        self.assertIs(is_leaving(ODD, [ODD], "", []), True)
        self.assertIs(is_leaving(ODD, [ODD], "", ()), True)
        for value in ("", [""], None, False, 0):
            self.assertIs(is_leaving(ODD, [ODD], "", value), False)
        self.assertIs(is_leaving(EVEN, [ODD], "", []), False)

    def test_other_letters(self):
        # c is no letter of these machines, b none of those with one letter.
        self.assertIs(is_leaving(EVEN, [ODD], "a", ["ac"]), False)
        self.assertIs(is_leaving(of_words(1, []), [of_words(1, ["a"])], "a", ["b"]), False)
        self.assertIs(is_leaving(of_words(1, []), [of_words(1, ["a"])], "a", ["a"]), True)
        self.assertIs(is_leaving(of_words(3, []), [of_words(3, ["c"])], "a", ["c"]), True)

    def test_new(self):
        value = leaving(EVEN, [ODD], "aaa")
        value.append("a")
        self.assertEqual(len(leaving(EVEN, [ODD], "aaa")), 3)
        views = [ODD, B]
        leaving(EVEN, views, "ab")
        self.assertEqual(views, [ODD, B])


class Wrong(unittest.TestCase):

    def test_all(self):
        wrong = {"machine": WRONG_MACHINES, "views": WRONG_VIEWS, "word": WRONG_VIEW_WORDS}
        wrongs(self, readings_of, {"views": [EVEN, B], "word": "ab"}, wrong)
        wrongs(self, opened, {"views": [EVEN, B], "machine": EVEN}, wrong)
        wrongs(self, is_sure, {"machine": EVEN, "views": [EVEN, B], "word": "ab"}, wrong)
        wrongs(self, leaving, {"machine": EVEN, "views": [EVEN, B], "word": "ab"}, wrong)
        wrongs(self, is_leaving, {"machine": EVEN, "views": [EVEN, B], "word": "ab", "value": ["a", "b"]}, wrong)

    def test_view_words_have_a_letter_for_each_view(self):
        for many in (1, 2, 3):
            for word in ("a", "b", "c"):
                for function, ahead in ((readings_of, []), (is_sure, [EVEN]), (leaving, [EVEN])):
                    if word in "abc"[:many]:
                        function(*ahead, [EVEN] * many, word)
                    else:
                        stopped(self, InvalidWord, function, *ahead, [EVEN] * many, word)

    def test_unlike_letters(self):
        for views in ([of_words(1, [])], [of_words(3, []), of_words(3, ["c"])]):
            for function, more in ((is_sure, []), (leaving, []), (is_leaving, [[]])):
                stopped(self, UnlikeLetters, function, EVEN, views, "a", *more)
                stopped(self, InvalidWord, function, EVEN, views, "c", *more)
                stopped(self, InvalidMachine, function, None, views, "a", *more)
        self.assertTrue(is_within(met(EVEN, ODD), NOTHING))


if __name__ == "__main__":
    unittest.main()
