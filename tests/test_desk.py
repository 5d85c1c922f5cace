"""[95], [96], [97] the desk itself: what is kept, all or none, papers, lines, copies, trials."""

import unittest
from random import Random

from by_hand import X, row, star
from helpers import JUNK, stopped
from test_deeds import BASE, based, picture
from test_guessers import PICK
from test_machines import EVEN
from test_middles import EVENS
from test_universals import TWO
from test_views import B, ODD
from widefills.claims import contrary, is_paper_of, paper_of
from widefills.commands import is_deed
from widefills.desk import Desk, Trial, tried
from widefills.errors import (CommandFailed, FillError, InvalidCommand, InvalidDeeds, InvalidPaper, LimitError,
                              MissingError, NameTaken, NothingToRedo, NothingToUndo, StateError, TooMany,
                              UnknownLabel, UnknownName)
from widefills.makings import of_words

NO_COMMANDS = JUNK + ("", 0, [], ["undo"], ("undo",), "undo ", " undo", "drop", "machine m 2: 1,0;0,1/0", "Undo")
# No names or labels of anything.
NO_NAMES = JUNK + ("", 0, "x", "M", "m ", [], ["m"], ("m",), EVEN, "machine m 1:0/0")


class Kept(unittest.TestCase):

    def test_new_desk(self):
        desk = Desk()
        self.assertEqual((desk.names, desk.labels, len(desk), desk.lines()), ([], [], 0, []))
        self.assertEqual(desk.do_all("names", "states"), ["-", "-"])

    def test_names_and_labels(self):
        desk = based("claim z made m p", "claim a made o p")
        self.assertEqual(desk.names, ["b", "f", "g", "h", "m", "o", "p", "q", "v", "w"])
        self.assertEqual(desk.labels, ["a", "z"])
        desk.names.append("x")
        desk.labels.clear()
        self.assertEqual((len(desk.names), desk.labels), (10, ["a", "z"]))

    def test_what_is_kept(self):
        desk = based()
        self.assertEqual([desk[name] for name in "mopfghvw"],
                         [EVEN, ODD, row(X, X), [[1]], TWO, [[0, 1], []], [ODD, B], PICK])
        desk["f"][0].append(0)
        desk["h"].clear()
        desk["v"].pop()
        self.assertEqual([desk[name] for name in "fhv"], [[[1]], [[0, 1], []], [ODD, B]])
        for name in NO_NAMES:
            self.assertIs(stopped(self, UnknownName, desk.__getitem__, name).value, name)

    def test_in(self):
        desk = based("claim k made m p")
        for name in desk.names:
            self.assertIs(name in desk, True)
        for name in NO_NAMES + ("k",):
            if name != "b":
                self.assertIs(name in desk, False, name)

    def test_len(self):
        desk = Desk()
        for at, line in enumerate(BASE):
            self.assertEqual(len(desk), at)
            desk.do(line)
        desk.do_all("names", "undo", "undo", "redo")
        self.assertEqual(len(desk), len(BASE) - 1)

    def test_not_gone_over(self):
        with self.assertRaises(TypeError):
            list(based())

    def test_desks_are_apart(self):
        one, other = Desk(), Desk()
        one.do("words m 1 a")
        self.assertEqual((one.names, other.names), (["m"], []))


class Do(unittest.TestCase):

    def test_no_commands(self):
        desk = based("drop p", "undo")
        ahead = picture(desk)
        for command in NO_COMMANDS:
            self.assertIs(stopped(self, InvalidCommand, desk.do, command).value, command)
            self.assertIs(stopped(self, InvalidCommand, desk, command).value, command)
            stopped(self, InvalidCommand, desk.do, command=command)
        self.assertEqual(picture(desk), ahead)

    def test_called(self):
        desk = Desk()
        self.assertEqual(desk("machine m 2:1,0;0,1/0"), "-")
        self.assertEqual(desk(command="lets m b"), "yes")
        self.assertEqual(desk.do(command="undo"), "machine m 2:1,0;0,1/0")
        self.assertEqual(desk("redo"), "machine m 2:1,0;0,1/0")
        self.assertIn("m", desk)


class AllOrNone(unittest.TestCase):

    def test_all(self):
        desk = Desk()
        self.assertEqual(desk.do_all(), [])
        self.assertEqual(desk.do_all("machine m 2:1,0;0,1/0", "first m", "undo", "redo"),
                         ["-", "-", "machine m 2:1,0;0,1/0", "machine m 2:1,0;0,1/0"])

    def test_none(self):
        desk = based("claim k made m p", "drop f", "undo")
        ahead = picture(desk)
        for commands, position, cause in (
                (["drop m", "drop m"], 1, UnknownName), (["undo", "undo", "machine m 1:0/0"], 2, NameTaken),
                (["names", "more m a", "?"], 2, InvalidCommand), ([None], 0, InvalidCommand), (["redo", "redo"], 1, NothingToRedo),
                (["undo"] * 12, 11, NothingToUndo), (["copy x m", "copy y m", "copy z m"], 2, TooMany),
                (["forget k", "state k"], 1, UnknownLabel)):
            for method in (desk.do_all, desk.attempt):
                error = stopped(self, CommandFailed, method, *commands)
                self.assertEqual(error.position, position)
                self.assertIs(type(error.__cause__), cause)
                self.assertEqual(picture(desk), ahead)

    def test_attempt(self):
        desk = based("claim k made m p", "drop f", "undo")
        desk.attach("k", [[0]])
        ahead = picture(desk)
        self.assertEqual(desk.attempt("more m a", "undo", "undo", "drop p", "states"),
                         ["k false", "more m a", "claim k made m p", "-", "-"])
        self.assertEqual(desk.attempt(), [])
        self.assertEqual(picture(desk), ahead)
        self.assertIs(desk.fits("k"), True)
        self.assertEqual(desk.do("redo"), "drop f")


class Claims(unittest.TestCase):

    def test_claim_of(self):
        desk = based("claim k within m p f", "claim l told m g")
        claim = desk.claim_of("k")
        self.assertEqual(claim, ("within", EVENS, 0, row(X, X), [[1]]))
        claim[4][0].append(5)
        self.assertEqual(desk.claim_of(label="k"), ("within", EVENS, 0, row(X, X), [[1]]))
        self.assertEqual(desk["f"], [[1]])
        desk.do("grow f 0 0")
        self.assertEqual(desk.claim_of("k"), ("within", EVENS, 0, row(X, X), [[1, 0]]))
        desk.do("drop f")
        self.assertIsNone(desk.claim_of("k"))
        desk.do("filling f 2")
        self.assertIsNone(desk.claim_of("k"))
        for label in NO_NAMES + ("m",):
            for method in (desk.claim_of, desk.fits):
                self.assertIs(stopped(self, UnknownLabel, method, label).value, label)
            self.assertIs(stopped(self, UnknownLabel, desk.attach, label, None).value, label)
        stopped(self, UnknownLabel, desk.claim_of, label="x")


class Papers(unittest.TestCase):

    def noted(self):
        return based("claim w within m p f", "claim o outside m q f", "claim a unlike 1 p q", "claim r right m 1 p f",
                     "claim s right m 2 q h", "claim m made m p", "claim n unmade o p", "claim t told m g",
                     "claim u mistold m w", "claim e exact m v", "claim i inexact m v")

    def test_attach(self):
        desk = self.noted()
        ahead, seen = picture(desk), []
        for label in desk.labels:
            claim = desk.claim_of(label)
            one = claim if desk.do("state " + label) == "true" else contrary(claim)
            paper = paper_of(one)
            self.assertIs(desk.fits(label), False)
            if paper is None:
                self.assertIsNone(stopped(self, InvalidPaper, desk.attach, label, paper).value)
            else:
                self.assertIsNone(desk.attach(label, paper))
                self.assertIs(desk.fits(label), True)
                seen.append(one[0])
        self.assertEqual(sorted(seen), ["made", "mistold", "outside", "right", "told", "unlike", "unmade", "wrong"])
        # It is no deed.
        self.assertEqual(picture(desk), ahead)

    def test_no_papers(self):
        desk = self.noted()
        for label in desk.labels:
            claim = desk.claim_of(label)
            for value in JUNK + ([[7]], (), [], "c", "ca", [None], (9, 9), {}):
                if not (is_paper_of(claim, value) or is_paper_of(contrary(claim), value)):
                    self.assertIs(stopped(self, InvalidPaper, desk.attach, label, value).value, value)
                    stopped(self, InvalidPaper, desk.attach, paper=value, label=label)
            self.assertIs(desk.fits(label=label), False)

    def test_only_the_true_one_is_asked(self):
        desk = based("claim k wrong m 1 p f", "claim l right m 1 p f")
        for label in ("k", "l"):
            desk.attach(label, [[1]])
            self.assertIs(desk.fits(label), True)
            stopped(self, InvalidPaper, desk.attach, label, (0, ("name", 0, "a")))
            self.assertIs(desk.fits(label), True)

    def test_while_gone(self):
        desk = based("claim k made m p", "drop p")
        self.assertEqual(stopped(self, InvalidPaper, desk.attach, "k", [[0]]).value, [[0]])
        self.assertIs(desk.fits("k"), False)
        desk.do("undo")
        desk.attach("k", [[0]])
        desk.do("redo")
        self.assertIs(desk.fits("k"), False)
        desk.do("pattern p (X.X)")
        self.assertIs(desk.fits("k"), True)

    def test_across_deeds(self):
        desk = based("claim k right m 1 p f")
        desk.attach("k", [[1]])
        told = []
        for command in ("shrink f 0 1", "grow f 0 0", "undo", "undo", "redo", "undo", "drop m", "undo", "copy x m", "undo"):
            desk.do(command)
            told.append(desk.fits("k"))
        # With the class 0 in the lot the paper, class 1, is not above it; with both it is not right.
        self.assertEqual(told, [True, False, True, True, True, True, False, True, True, True])

    def test_the_truth_changes(self):
        desk = based("claim k right m 1 p f")
        desk.attach("k", [[1]])
        desk.do("grow f 0 0")
        self.assertEqual(desk.do("state k"), "false")
        self.assertIs(desk.fits("k"), False)
        paper = (0, ("behind", ("name", 0, "a"), ("name", 0, "")))
        desk.attach("k", paper)
        self.assertIs(desk.fits("k"), True)
        desk.do("undo")
        self.assertIs(desk.fits("k"), False)
        desk.do("redo")
        self.assertIs(desk.fits("k"), True)
        # Just one paper is kept with a label.
        desk.do("undo")
        desk.attach("k", [[1]])
        desk.do("redo")
        self.assertIs(desk.fits("k"), False)

    def test_kept_for_the_contrary(self):
        # What shows the one, told now, must be what it was kept for: a word that parts them stays one.
        desk = based("claim k told m w")
        desk.attach("k", "")
        self.assertIs(desk.fits("k"), True)
        desk.do_all("forget k", "claim k mistold m w")
        self.assertIs(desk.fits("k"), False)
        desk.attach("k", "")
        self.assertIs(desk.fits("k"), True)
        desk.do_all("undo", "undo")
        self.assertEqual(desk.do("claimed k"), "told m w")
        self.assertIs(desk.fits("k"), False)

    def test_noted_again(self):
        desk = based("claim k made m p")
        desk.attach("k", [[0]])
        desk.do("forget k")
        stopped(self, UnknownLabel, desk.fits, "k")
        desk.do("claim k made o q")
        self.assertIs(desk.fits("k"), False)
        desk.do_all("forget k", "claim k made m p")
        self.assertIs(desk.fits("k"), True)
        desk.do_all("forget k", "claim k unmade m p")
        self.assertIs(desk.fits("k"), False)
        desk.do_all("copy x m", "forget k", "claim k made x p")
        self.assertIs(desk.fits("k"), False)

    def test_papers_are_copied(self):
        desk = based("claim k made m p")
        paper = [[0]]
        desk.attach("k", paper)
        paper[0].append(7)
        self.assertIs(desk.fits("k"), True)
        paper[0].pop()
        self.assertEqual(paper, [[0]])

    def test_asks_too_much(self):
        desk = Desk()
        desk.do_all("machine m 1:1;2;3;4;5;6;7;8;9;10;4/0,2,3,4,7,10",
                    "guesser g 1:0/1;2;3;4;5;6;7;8;9;10;4/0,2,3,4,7,10", "claim k told m g")
        self.assertEqual(desk.do("state k"), "true")
        stopped(self, TooMany, desk.attach, "k", list(range(11)))


class Lines(unittest.TestCase):

    def test_lines(self):
        desk = based("undo", "names", "claim k made m p", "undo", "drop p")
        self.assertEqual(desk.lines(), BASE[:-1] + ["drop p"])
        desk.lines().append("x")
        self.assertEqual(desk.lines(), BASE[:-1] + ["drop p"])

    def test_again(self):
        desk = based("claim k made m p", "grow f 0 0", "more m a", "undo", "less b b")
        for lines in (desk.lines(), tuple(desk.lines())):
            other = Desk.again(lines)
            self.assertIs(type(other), Desk)
            self.assertEqual(picture(other)[0], picture(desk)[0])
            stopped(self, NothingToRedo, other.do, "redo")
        self.assertEqual(Desk.again(lines=[]).lines(), [])
        other.do("drop m")
        self.assertIn("m", desk)

    def test_one_wrong_line(self):
        for at in range(len(BASE) + 1):
            for wrong in (None, "undo", "names", "drop", "", "x", ["drop m"], "lets m a", 0):
                error = stopped(self, InvalidDeeds, Desk.again, BASE[:at] + [wrong] + BASE[at:])
                self.assertEqual(error.position, at)
            error = stopped(self, CommandFailed, Desk.again, BASE[:at] + ["drop x"] + BASE[at:])
            self.assertEqual(error.position, at)
            self.assertIs(type(error.__cause__), UnknownName)
        # All lines are looked at ahead of all deeds.
        self.assertEqual(stopped(self, InvalidDeeds, Desk.again, ["drop x", "names"]).position, 1)
        self.assertEqual(stopped(self, InvalidDeeds, Desk.again, ["states", None]).position, 0)
        error = stopped(self, CommandFailed, Desk.again, ["words m 1 a"] + ["more m a"] * 300)
        self.assertEqual(error.position, 300)

    def test_no_list(self):
        for value in JUNK + ("", 0, {"drop m": 0}, "drop m", EVEN):
            self.assertIsNone(stopped(self, InvalidDeeds, Desk.again, value).position)
            self.assertIsNone(stopped(self, InvalidDeeds, Desk.again, lines=value).position)


class Copies(unittest.TestCase):

    def test_apart(self):
        desk = based("claim k made m p", "drop f", "undo")
        desk.attach("k", [[0]])
        other = desk.copy()
        self.assertIs(type(other), Desk)
        self.assertEqual(picture(other), picture(desk))
        self.assertIs(other.fits("k"), True)
        other.do_all("redo", "more m a", "forget k")
        self.assertEqual((desk.do("state k"), desk["m"]), ("true", EVEN))
        self.assertEqual(desk.do("redo"), "drop f")
        desk.do_all("drop m", "words m 1 a")
        self.assertEqual(other.do("first m"), "-")
        self.assertEqual(len(other), len(BASE) + 4)

    def test_papers_apart(self):
        desk = based("claim k made m p")
        other = desk.copy()
        other.attach("k", [[0]])
        self.assertEqual((desk.fits("k"), other.fits("k")), (False, True))


class Trials(unittest.TestCase):

    def desk(self):
        desk = based("claim k made m p", "drop f", "undo")
        desk.attach("k", [[0]])
        return desk

    def test_all_as_before(self):
        desk = self.desk()
        ahead = picture(desk)
        with Trial(desk) as held:
            self.assertIs(held, desk)
            held.do_all("redo", "drop p", "undo", "undo", "undo", "words f2 1 a")
            held.do("claim k alike 1 q q")
            self.assertNotEqual(picture(held), ahead)
        self.assertEqual(picture(desk), ahead)
        self.assertIs(desk.fits("k"), True)

    def test_papers(self):
        desk = self.desk()
        with Trial(desk=desk):
            desk.attach("k", [[0, 0][:1]])
            desk.do_all("forget k", "claim k right m 1 p f")
            desk.attach("k", [[1]])
        self.assertIs(desk.fits("k"), True)
        other = based("claim k made m p")
        with Trial(other):
            other.attach("k", [[0]])
        self.assertIs(other.fits("k"), False)

    def test_an_error_goes_on(self):
        desk = self.desk()
        ahead = picture(desk)
        with self.assertRaises(UnknownName):
            with Trial(desk) as held:
                held.do("drop p")
                held.do("drop p")
        self.assertEqual(picture(desk), ahead)
        error = KeyError("x")
        with self.assertRaises(KeyError) as caught:
            with Trial(desk):
                desk.do("undo")
                raise error
        self.assertIs(caught.exception, error)
        self.assertEqual(picture(desk), ahead)

    def test_one_block_behind_another(self):
        desk = self.desk()
        trial = Trial(desk)
        for command in ("drop p", "drop m"):
            with trial as held:
                held.do(command)
            desk.do("grow f 0 0")
        self.assertEqual(desk.lines()[-2:], ["grow f 0 0"] * 2)
        self.assertIn("p", desk)

    def test_trials_within_trials(self):
        desk = self.desk()
        ahead = picture(desk)
        with Trial(desk):
            desk.do("drop p")
            between = picture(desk)
            with Trial(desk):
                desk.do("drop m")
            self.assertEqual(picture(desk), between)
        self.assertEqual(picture(desk), ahead)

    def test_left_ahead_of_the_end(self):
        desk = self.desk()
        ahead = picture(desk)

        def leave():
            with Trial(desk) as held:
                held.do("drop p")
                return held.names

        self.assertNotIn("p", leave())
        self.assertEqual(picture(desk), ahead)

    def test_tried(self):
        desk = self.desk()
        ahead = picture(desk)
        self.assertEqual(tried(desk, lambda held: held.do_all("drop m", "names")), ["k gone", "b f g h o p q v w"])
        self.assertIs(tried(action=lambda held: held, desk=desk), desk)
        self.assertIsNone(tried(desk, lambda held: None))
        self.assertEqual(picture(desk), ahead)
        with self.assertRaises(UnknownName):
            tried(desk, lambda held: held.do_all("drop p") and held.do("drop p"))
        self.assertEqual(picture(desk), ahead)


class Chance(unittest.TestCase):
    """Commands by chance: what is kept, answered and taken back, against desks that do the deeds from the begin."""

    def command(self, chance):
        name, other, label = chance.choice("mopqfghvx"), chance.choice("mopqfgwvxy"), chance.choice("klt")
        claim = chance.choice(["within m p f", "outside o q f", "alike 2 p q", "right m 1 p f", "wrong o 2 q h",
                               "made m p", "unmade x q", "told m g", "mistold x g", "exact m v", "inexact x v"])
        return chance.choice([
            f"drop {name}", f"copy {name} {other}", f"copy x {other}", f"joined x {name} {other}", f"rounds x {name}",
            f"star {name} {other}", f"more {name} ab", f"less {name} -", f"grow f 0 {chance.randrange(3)}", "shrink f 0 1",
            f"claim {label} {claim}", f"claim {label} {claim}", f"forget {label}", "undo", "undo", "redo", "states", "names",
            f"state {label}", f"tells {name} {other}", f"use {name} {other}", f"words {name} 2 a,-", f"machine {name} 2:1,0;0,1/0",
            f"pattern {name} (X|ab)", f"filling {name} 0;1", f"guesser {name} 2:0/1,0;0,1/0", f"views {name} {other}", "?"])

    def test_all(self):
        done = 0
        for seed in range(20):
            chance, desk, lines, undone = Random(seed), based(), list(BASE), []
            for _ in range(60):
                command, ahead = self.command(chance), desk.do("states")
                try:
                    answer = desk.do(command)
                except (FillError, MissingError, StateError, LimitError):
                    answer = None
                if answer is not None and command == "undo":
                    undone.append(lines.pop())
                    self.assertEqual(answer, undone[-1])
                elif answer is not None and command == "redo":
                    lines.append(undone.pop())
                    self.assertEqual(answer, lines[-1])
                elif answer is not None and is_deed(command):
                    lines, undone = lines + [command], []
                    self.assertEqual(answer, self.changed(ahead, desk.do("states")))
                    done += 1
                self.assertEqual(desk.lines(), lines)
                # What redo brings back is told of the desk itself alone.
                most = 1 + 2 * min(15, len(lines))
                self.assertEqual(picture(Desk.again(lines))[:most], picture(desk)[:most])
        self.assertGreater(done, 150)

    def changed(self, ahead, behind):
        known = ahead.split(", ")
        return ", ".join([one for one in behind.split(", ") if one not in known and one != "-"]) or "-"


class Big(unittest.TestCase):

    def test_what_deeds_make_may_be_big(self):
        desk = Desk()
        desk.do_all("words m 1 " + "a" * 58, "show m", "rounds n m", "pattern p X" + "*" * 8, "show p")
        self.assertEqual(desk["m"], of_words(1, ["a" * 58]))
        self.assertEqual(desk["p"][0], star(X)[0])


if __name__ == "__main__":
    unittest.main()
