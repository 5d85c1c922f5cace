"""[84], [85], [86] the answer of views, exact ones, lost words, needless views."""

import unittest

from helpers import all_words, chain, led, stopped, wrongs
from test_guessers import far_from_the_end
from test_machines import EVEN, WRONG_MACHINES
from test_views import B, CASES, EMPTY_WORD, NOTHING, ODD, WRONG_VIEWS
from widefills.answers import answer, is_exact, lost_word, needless
from widefills.errors import InvalidMachine, InvalidViews, TooMany, UnlikeLetters
from widefills.machines import Machine, lets, words_of
from widefills.makings import is_within, joined, of_words, parting, rounds
from widefills.views import is_sure, opened

EVERYTHING = Machine(2, [[0, 0]], [0])


def read_by(machine, views, word):
    """Whether the word is a reading of a view word that the machine over the views lets: gone through by hand."""
    found, queue = set(), [(0, 0)]
    while queue:
        at, state = queue.pop()
        if (at, state) in found:
            continue
        found.add((at, state))
        for view, after in zip(views, machine.steps()[state]):
            for end in range(at, len(word) + 1):
                if led(view.steps(), word[at:end]) in view.ends():
                    queue.append((end, after))
    return any((len(word), state) in found for state in machine.ends())


def opened_or_none(machine, views):
    try:
        return opened(views, answer(machine, views))
    except TooMany:
        return None


class Answer(unittest.TestCase):

    def test_all_view_words(self):
        for machine, views in CASES:
            told = answer(machine, views)
            self.assertEqual(told.letters, len(views))
            for word in all_words(len(views), {1: 7, 2: 5, 3: 4}[len(views)]):
                self.assertIs(led(told.steps(), word) in told.ends(), is_sure(machine, views, word))

    def test_opened_it_lies_within(self):
        for machine, views in CASES:
            told = opened_or_none(machine, views)
            if told is not None:
                self.assertIs(is_within(told, machine), True)

    def test_greatest(self):
        """Whatever view word more there is has a reading that is not let."""
        for machine, views in CASES[::4]:
            told = answer(machine, views)
            for word in all_words(len(views), 3):
                if not lets(told, word):
                    more = joined(told, of_words(len(views), [word]))
                    self.assertFalse(is_within(opened(views, more), machine))

    def test_one_view_more(self):
        for machine, views in CASES:
            if len(views) < 3:
                more, told = answer(machine, views + [ODD if machine.letters == 2 else views[0]]), answer(machine, views)
                for word in all_words(len(views), 4):
                    self.assertIs(lets(more, word), lets(told, word))

    def test_by_hand(self):
        self.assertEqual(answer(EVEN, [ODD]), Machine(1, [[1], [0]], [0]))
        self.assertEqual(answer(views=(ODD, B), machine=EVEN), Machine(2, [[1, 0], [0, 1]], [0]))
        self.assertEqual(answer(EVEN, [NOTHING]), Machine(1, [[0]], [0]))
        self.assertEqual(answer(ODD, [NOTHING]), Machine(1, [[1], [1]], [1]))
        self.assertEqual(answer(ODD, [EMPTY_WORD]), of_words(1, []))
        self.assertEqual(answer(EVEN, [EMPTY_WORD]), Machine(1, [[0]], [0]))
        # A sign of an empty view makes each view word sure.
        self.assertEqual(answer(ODD, [NOTHING, ODD]), Machine(2, [[1, 2], [1, 1], [1, 0]], [1, 2]))
        self.assertEqual(answer(NOTHING, [EVEN, ODD]), of_words(2, []))
        self.assertEqual(answer(EVERYTHING, [EVEN, ODD]), EVERYTHING)
        self.assertEqual(answer(EVEN, [EVEN, ODD, EVERYTHING]), Machine(3, [[0, 1, 2], [1, 0, 2], [2, 2, 2]], [0]))

    def test_letters_as_views(self):
        for machine, _ in CASES:
            if machine.letters > 1 or machine.states > 1:
                signs = [of_words(machine.letters, [sign]) for sign in "abc"[:machine.letters]]
                self.assertEqual(answer(machine, signs), machine)

    def test_what_is_passed_stays(self):
        views = [ODD, B]
        answer(EVEN, views)
        needless(EVEN, views)
        self.assertEqual(views, [ODD, B])


class Exact(unittest.TestCase):

    def test_exactly_if_none_is_lost(self):
        seen = []
        for machine, views in CASES:
            if opened_or_none(machine, views) is None:
                continue
            lost = lost_word(machine, views)
            self.assertIs(is_exact(machine, views), lost is None)
            self.assertIs(is_exact(machine, tuple(views)), lost is None)
            self.assertEqual(lost, lost_word(machine, tuple(views)))
            seen.append(lost is None)
        self.assertGreater(min(seen.count(True), seen.count(False)), 15)

    def test_lost_word_by_hand(self):
        for machine, views in CASES:
            if opened_or_none(machine, views) is None:
                continue
            lost, told = lost_word(machine, views), answer(machine, views)
            length = {1: 8, 2: 5, 3: 4}[machine.letters]
            found = [word for word in words_of(machine, min(6, length)) if not read_by(told, views, word)]
            if found:
                self.assertEqual(lost, found[0])
            elif lost is not None:
                self.assertGreater(len(lost), min(6, length))
                self.assertTrue(lets(machine, lost))
                self.assertFalse(read_by(told, views, lost))

    def test_nothing_is_lost(self):
        for machine, views in CASES:
            signs = [of_words(machine.letters, [sign]) for sign in "abc"[:machine.letters]]
            for told in ([machine], signs, [machine] + views[:1], [machine, machine, machine]):
                self.assertIs(is_exact(machine, told), True)
                self.assertIsNone(lost_word(machine, told))

    def test_by_hand(self):
        self.assertEqual((is_exact(EVEN, [ODD]), lost_word(EVEN, [ODD])), (False, "b"))
        self.assertEqual((is_exact(EVEN, [ODD, B]), lost_word(EVEN, [ODD, B])), (True, None))
        # The empty view word alone is sure: what else is let is lost.
        self.assertEqual((is_exact(EVEN, [NOTHING]), lost_word(EVEN, [NOTHING])), (False, "b"))
        self.assertEqual(lost_word(EVEN, [EVERYTHING]), "b")
        self.assertEqual(lost_word(ODD, [EVERYTHING]), "a")
        self.assertIs(is_exact(EMPTY_WORD, [EVERYTHING]), True)
        self.assertIs(is_exact(machine=NOTHING, views=[EVERYTHING]), True)
        self.assertEqual(lost_word(machine=of_words(2, ["ab", "b", "bb"]), views=[B]), "ab")

    def test_long_lost_words(self):
        everything = Machine(1, [[0]], [0])
        self.assertEqual(lost_word(everything, [of_words(1, ["a" * 7, "a" * 9])]), "a")
        self.assertEqual(lost_word(everything, [of_words(1, ["", "a"])]), None)
        twelve = Machine(1, [[(state + 1) % 12] for state in range(12)], [0])
        self.assertEqual(lost_word(twelve, [of_words(1, ["", "a" * 24])]), "a" * 12)
        self.assertEqual(lost_word(of_words(1, ["a" * 58]), [of_words(1, ["a" * 57])]), "a" * 58)
        # All words of a that have as many signs as 7 and 9 make together, but not 47.
        some = rounds(of_words(1, ["a" * 7, "a" * 9]))
        self.assertEqual(lost_word(joined(some, of_words(1, ["a" * 47])), [of_words(1, ["a" * 7, "a" * 9])]), "a" * 47)


class Needless(unittest.TestCase):

    def test_by_hand(self):
        seen = []
        for machine, views in CASES:
            whole = opened_or_none(machine, views)
            left = [opened_or_none(machine, views[:at] + views[at + 1:]) if len(views) > 1 else None
                    for at in range(len(views))]
            if len(views) > 1 and None not in [whole] + left:
                wanted = [at for at, one in enumerate(left) if parting(one, whole) is None]
                self.assertEqual(needless(machine, views), wanted)
                self.assertEqual(needless(machine, tuple(views)), wanted)
                seen.append(tuple(wanted))
        self.assertGreater(len(set(seen)), 5)

    def test_one_view(self):
        for machine, views in CASES:
            self.assertEqual(needless(machine, views[:1]), [])
        self.assertEqual(needless(EVEN, [EVEN]), [])
        self.assertEqual(needless(views=(NOTHING,), machine=EVEN), [])

    def test_two_that_stand_for_each_other(self):
        # Each for itself can be left out; not both.
        self.assertEqual(needless(EVEN, [ODD, ODD]), [0, 1])
        self.assertEqual(needless(EVEN, [ODD, B, ODD]), [0, 2])
        self.assertEqual(needless(EVEN, [EVEN, ODD, B]), [0, 1, 2])
        self.assertEqual(needless(EVEN, [EVEN, ODD]), [1])
        self.assertEqual(needless(EVEN, [ODD, B]), [])

    def test_empty_view(self):
        self.assertEqual(needless(EVEN, [NOTHING, ODD]), [0])
        self.assertEqual(needless(EVEN, [ODD, B, NOTHING]), [2])
        self.assertEqual(needless(EVEN, [NOTHING, NOTHING]), [0, 1])
        self.assertEqual(needless(EVEN, [EMPTY_WORD, NOTHING]), [0, 1])

    def test_kinds_of_values(self):
        told = needless(EVEN, [ODD, ODD])
        self.assertEqual([type(told)] + [type(one) for one in told], [list, int, int])
        told.append(7)
        self.assertEqual(needless(EVEN, [ODD, ODD]), [0, 1])


class TooManyStates(unittest.TestCase):

    def test_answer(self):
        machine, views = far_answer(6)
        error = stopped(self, TooMany, answer, machine, views)
        self.assertEqual((error.what, error.limit), ("states", 60))
        for function in (is_exact, lost_word, needless):
            stopped(self, TooMany, function, machine, views)
            stopped(self, TooMany, function, views=views, machine=machine)
        self.assertEqual(needless(machine, views[:1]), [])
        machine, views = far_answer(5)
        self.assertEqual(answer(machine, views).states, 32)

    def test_opened(self):
        # Sure are all view words of one sign and more: these have 57 signs and more.
        long = of_words(1, ["a" * 58, "a" * 57])
        self.assertEqual(answer(chain(12), [long]).states, 2)
        for function in (is_exact, lost_word):
            error = stopped(self, TooMany, function, chain(12), [long])
            self.assertEqual((error.what, error.limit), ("states", 60))
        self.assertEqual(needless(chain(12), [long]), [])
        stopped(self, TooMany, needless, chain(12), [long, long])

    def test_needless_of_the_others(self):
        # All of them together are told by few states, without the last one there are too many.
        long = of_words(1, ["a" * 58, "a" * 57])
        machine = Machine(1, [[0]], [0])
        views = [long, machine]
        self.assertIs(is_exact(machine, views), True)
        stopped(self, TooMany, needless, machine, views)
        stopped(self, TooMany, needless, machine, views[::-1])


def far_answer(many):
    """A machine and two views whose view words with a so many places ahead of the end are not sure."""
    # By a and b, the readings of the first view, one goes on at will: both are next states for its sign.
    steps = []
    for ahead, behind in far_from_the_end(many).steps():
        steps.append([(lot + [many + 1])[0] for lot in (ahead, ahead[::-1], behind)])
    machine = Machine(3, steps + [[many + 1] * 3], [state for state in range(many + 2) if state != many])
    return machine, [of_words(3, ["a", "b"]), of_words(3, ["c"])]


class Wrong(unittest.TestCase):

    def test_all(self):
        wrong = {"machine": WRONG_MACHINES, "views": WRONG_VIEWS}
        for function in (answer, is_exact, lost_word, needless):
            wrongs(self, function, {"machine": EVEN, "views": [EVEN, B]}, wrong)

    def test_unlike_letters(self):
        for function in (answer, is_exact, lost_word, needless):
            for views in ([of_words(1, [])], [of_words(3, [])] * 2, (of_words(3, ["c"]),)):
                stopped(self, UnlikeLetters, function, EVEN, views)
                stopped(self, UnlikeLetters, function, views=views, machine=EVEN)
                stopped(self, InvalidMachine, function, None, views)
                stopped(self, InvalidViews, function, EVEN, list(views) + [EVEN])


if __name__ == "__main__":
    unittest.main()
