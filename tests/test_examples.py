"""The examples of the document, as they stand there, and those of README.md."""

import doctest
import unittest
from pathlib import Path

EXAMPLES = '''
>>> from widefills.basics import is_count, is_integer
>>> from widefills.words import first_words, is_word
>>> [is_integer(True), is_count(3), is_word(1, "ab"), is_word(2, ""), is_word(2, 5), first_words(2, 2)]
[False, True, False, True, False, ['', 'a', 'b', 'aa', 'ab', 'ba', 'bb']]

>>> from widefills.machines import Machine, is_empty, lets, shortest, words_of
>>> even = Machine(2, [[1, 0], [0, 1]], [0])
>>> [even == Machine(2, [[2, 0], [0, 3], [3, 2], [0, 1]], [0, 1]), Machine(1, [[1], [1], [0]], [1, 2]).states, lets(even, "aba"), lets(even, "ab"), is_empty(Machine(1, [[0]], [])), shortest(Machine(2, [[0, 1], [1, 1]], [1])), words_of(even, 2)]
[False, 2, True, False, True, 'b', ['', 'b', 'aa', 'bb']]

>>> from widefills.makings import behind, is_within, joined, met, of_words, parting, rounds, without
>>> one, two = of_words(2, ["a"]), of_words(2, ["ab", ""])
>>> [words_of(joined(one, two), 2), words_of(behind(two, one), 3), words_of(rounds(one), 3), words_of(without(rounds(one), one), 2), is_empty(met(one, two)), is_within(two, rounds(joined(one, two))), parting(even, rounds(one))]
[['', 'a', 'ab'], ['a', 'aba'], ['', 'a', 'aa', 'aaa'], ['', 'aa'], True, True, 'a']

>>> from widefills.machines import Machine
>>> from widefills.tables import Table, class_of, passed, product
>>> even, last = Machine(2, [[1, 0], [0, 1]], [0]), Machine(2, [[1, 0], [1, 0]], [1])
>>> [Table([even]).words(), Table([last]).words(), Table([even, last]).words(), passed(Table([even]), 0), passed(Table([last]), 0), class_of(Table([last]), "abb"), product(Table([last]), 2, 1)]
[['', 'a'], ['', 'a', 'b'], ['', 'a', 'b', 'aa', 'ab'], [0], [1], 2, 1]
>>> [passed(Table([even, last]), 0), passed(Table([even, last]), 1), Table([even, last]) == Table([last, even]), Table([last]).classes]
[[0, 2, 3], [1, 3], False, 3]

>>> from widefills.lots import behind_lots, lot_machine, rest_ahead, rest_behind, rounds_lot, widened
>>> from widefills.makings import of_words, rounds
>>> both = Table([even, last])
>>> [widened(both, of_words(2, ["", "aa", "aba"])), lot_machine(both, [3, 1]) == last, lot_machine(both, []).ends(), behind_lots(both, [1], [1, 2]), rounds_lot(both, [1]), rounds_lot(both, [])]
[[0, 3], True, [], [3, 4], [0, 1, 3], [0]]
>>> [rest_behind(both, [1], [0, 2, 3]), rest_ahead(both, [2], [0, 2, 3]), rest_behind(both, [], [0]), rest_ahead(both, [0], [1, 4]), widened(both, rounds(of_words(2, ["b"])))]
[[1, 4], [0, 2, 3], [0, 1, 2, 3, 4], [1, 4], [0, 2]]

>>> from widefills.machines import Machine
>>> from widefills.tables import Table
>>> from widefills.pairs import first_pair, is_pair, last_pair, pair_over, pairs
>>> even = Table([Machine(2, [[1, 0], [0, 1]], [0])])
>>> [even.words(), pairs(even, 0), first_pair(even, 0), last_pair(even, 0), pair_over(even, 0, [1]), pair_over(even, 0, []), is_pair(even, 0, ([0, 1], [])), is_pair(even, 0, ([0], []))]
[['', 'a'], [([], [0, 1]), ([0], [0]), ([0, 1], []), ([1], [1])], 1, 1, ([1], [1]), ([], [0, 1]), True, False]

>>> from widefills.middles import is_way, joined_fillings, middle, middles, way_of
>>> [middle(even, 0, 1, 3), middles(even, 0)[2], joined_fillings(even, 0, 1), joined_fillings(even, 0, 2), is_way(even, 0, [[1], [1]], [1, 3, 1]), is_way(even, 0, [[1], [1]], [1, 1, 1]), way_of(even, 0, [[0], [1]])]
[[1], [[], [], [0, 1], []], [[[0]]], [[[], [0, 1]], [[0], [0]], [[0, 1], []], [[1], [1]]], True, False, None]

>>> from widefills.machines import Machine
>>> from widefills.makings import of_words
>>> from widefills.patterns import are_alike, is_mixed, is_pattern, made, made_lot, mixed_parting, names_of
>>> from widefills.tables import Table

>>> x, table = ("name", 0), Table([Machine(2, [[1, 0], [0, 1]], [0])])
>>> [is_pattern(1, ("behind", x, ("word", "b"))), names_of(2, ("either", ("name", 2), ("round", x))), made(2, ("behind", x, ("word", "a")), [of_words(2, ["b", ""])]) == of_words(2, ["a", "ba"]), made_lot(table, ("behind", x, x), [[1]]), made_lot(table, ("round", x), [[]])]
[False, [0, 2], True, [0], [0]]
>>> many, more = ("round", ("word", "a")), ("round", ("either", ("word", "a"), x))
>>> [is_mixed(1, ("behind", x, ("word", "aa")), (0, "a", "a")), is_mixed(1, many, ["aa"]), are_alike(1, many, ("round", many)), are_alike(1, many, more), mixed_parting(1, many, more)]
[True, False, True, False, [0]]

>>> from widefills.readings import is_outside, is_reading, stays_within, outside, read_word
>>> [read_word(("behind", ("name", 0, "ba"), ("round", [("word", "a"), ("word", "a")]))), is_reading(2, ("round", x), [of_words(2, ["ab"])], ("round", (("name", 0, "ab"),))), is_reading(2, x, [of_words(2, ["ab"])], ("name", 0, "a"))]
['baaa', True, False]
>>> [stays_within(table, 0, ("behind", x, x), [[1]]), outside(table, 0, ("behind", x, x), [[0]]), outside(table, 0, ("behind", x, ("word", "a")), [[0]]), is_outside(table, 0, ("behind", x, x), [[0, 1]], ("behind", ("name", 0, "bb"), ("name", 0, "aba")))]
[True, None, ('behind', ('name', 0, ''), ('word', 'a')), False]

>>> from widefills.greatest import above, greatest, growing_break, is_greatest, is_growing_break, is_right
>>> from widefills.machines import Machine
>>> from widefills.tables import Table
>>> twos, named, other = Table([Machine(2, [[1, 0], [0, 1]], [0])]), ("name", 0), ("name", 1)

>>> both, joined = [(("behind", named, named), 0)], [(("behind", named, other), 0)]
>>> [greatest(twos, 1, both), greatest(twos, 2, joined), is_right(twos, both, [[0, 1]]), above(twos, 2, joined, [[1], [1]]), above(twos, 1, both, [[0, 1]]), is_greatest(twos, 1, both, ([1],))]
[[[[0]], [[1]]], [[[], [0, 1]], [[0], [0]], [[0, 1], []], [[1], [1]]], False, [[1], [1]], None, True]
>>> [growing_break(twos, joined, [[], [0, 1]], 1, 0), is_growing_break(twos, both, [[0]], 0, 1, (0, ("behind", ("name", 0, "ab"), ("name", 0, "b")))), is_growing_break(twos, both, [[0]], 0, 1, (0, ("behind", ("name", 0, "a"), ("name", 0, "a"))))]
[None, True, False]

>>> from widefills.bounds import bounded, fits
>>> from widefills.makings import of_words
>>> odd = of_words(2, ["a", "bab"])
>>> [bounded(twos, 1, both, [odd], [None]), bounded(twos, 1, both, [None], [0]), bounded(twos, 1, both, [odd], [0]), bounded(twos, 2, joined, [odd, None], [None, 0]), fits(twos, both, [odd], [None], [[1]]), fits(twos, both, [odd], [None], [[0]])]
[[[[1]]], [[[0]]], [], [[[0, 1], []]], True, False]

>>> from widefills.machines import Machine
>>> from widefills.mades import is_losses, is_made, is_making, losses, lost, making
>>> from widefills.tables import Table
>>> even = Machine(2, [[1, 0], [0, 1]], [0])

>>> table, twice = Table([even]), ("behind", ("name", 0), ("name", 0))
>>> amid = ("behind", ("name", 0), ("behind", ("word", "a"), ("name", 0)))
>>> [is_made(table, 0, twice), making(table, 0, twice), is_making(table, 0, twice, ((1,),)), lost(table, 0, twice, [[1]]), lost(table, 0, twice, [[0]]), losses(table, 0, twice)]
[True, [[0]], False, '', None, None]
>>> [is_made(table, 0, amid), losses(table, 0, amid), is_losses(table, 0, amid, [([[]], "aba")]), is_losses(table, 0, amid, [([[]], "a")]), is_losses(table, 0, twice, [([[1]], "")])]
[False, [([[]], '')], True, False, False]

>>> from widefills.machines import words_of
>>> from widefills.makings import of_words
>>> from widefills.roots import is_root, is_round, power_lots, root

>>> [is_round(even), words_of(root(even), 4), is_root(even, root(even)), is_root(even, even), is_root(even, of_words(2, ["b"])), is_round(of_words(2, ["a"])), root(of_words(2, []))]
[True, ['b', 'aa', 'aba', 'abba'], True, True, False, False, None]
>>> [power_lots(table, 0, many) for many in [1, 2, 3]]
[[[0]], [[0], [1]], [[0]]]

>>> from widefills.guessers import Guesser, is_of_use, merged, of_use, tells
>>> from widefills.machines import words_of
>>> pick = Guesser(2, [[[0, 1], [0]], [[], []], [[2], [2]]], [0], [1])
>>> [words_of(tells(pick), 2), is_of_use(pick), of_use(pick).steps(), words_of(tells(merged(pick, 1, 0)), 1), pick.states, tells(Guesser(1, [], [], [])).ends()]
[['a', 'aa', 'ba'], False, [[[0, 1], [0]], [[], []]], ['', 'a', 'b'], 3, []]

>>> from widefills.machines import Machine
>>> from widefills.tables import Table
>>> from widefills.universals import is_map, map_to, part, universal
>>> evens, two = Table([Machine(2, [[1, 0], [0, 1]], [0])]), Guesser(2, [[[1], [0]], [[0], [1]]], [0], [0])

>>> one = universal(evens, 0)
>>> [one.begins(), one.ends(), one.steps()[1], one.steps()[2], tells(one) == evens.machines()[0], part(evens, 0, (3, 1)) == two]
[[1, 2], [0, 1], [[2, 3], [1, 2]], [[2], [2]], True, True]
>>> [map_to(evens, 0, two), is_map(evens, 0, two, [1, 3]), is_map(evens, 0, two, [1, 1]), is_map(evens, 0, Guesser(2, [], [], []), ())]
[[1, 3], True, False, True]

>>> from widefills.fewest import fewest, fewest_places, least_guesser, lost_by
>>> [fewest(evens, 0), fewest_places(evens, 0), lost_by(evens, 0, [1]), lost_by(evens, 0, [3, 1, 0]), tells(least_guesser(evens, 0)) == evens.machines()[0], fewest(Table([Machine(1, [[0]], [])]), 0)]
[2, [[1, 3]], 'aa', None, True, 0]

>>> from widefills.views import is_leaving, is_sure, leaving, opened, readings_of
>>> odd, b = Machine(2, [[1, 0], [0, 1]], [1]), of_words(2, ["b"])
>>> [words_of(readings_of([odd, b], "ab"), 3), words_of(opened([odd], Machine(1, [[1], [0]], [0])), 3), is_sure(even, [odd], "aa"), is_sure(even, [odd], "a"), is_sure(even, [of_words(2, [])], "a")]
[['ab', 'abb', 'bab'], ['', 'aa', 'aab', 'aba', 'baa'], True, False, True]
>>> [leaving(even, [odd], "aa"), is_leaving(even, [odd], "a", ["a"]), is_leaving(even, [odd], "a", ["aa"]), is_leaving(even, [odd, b], "ab", ("ba", "b")), is_leaving(even, [odd], "a", "a"), is_leaving(even, [odd], "a", leaving(even, [odd], "a"))]
[None, True, False, True, False, True]

>>> from widefills.answers import answer, is_exact, lost_word, needless
>>> [answer(even, [odd]) == Machine(1, [[1], [0]], [0]), answer(even, [of_words(2, [])]) == Machine(1, [[0]], [0]), words_of(answer(even, [odd, b]), 2)]
[True, True, ['', 'b', 'aa', 'bb']]
>>> [is_exact(even, [odd]), lost_word(even, [odd]), is_exact(even, [odd, b]), lost_word(even, [odd, b]), needless(even, [odd, b, even]), needless(even, [odd])]
[False, 'b', True, None, [0, 1, 2], []]

>>> from widefills.guessers import Guesser
>>> from widefills.tables import Table
>>> from widefills.texts import guesser_text, lots_text, machine_text, pattern_text, views_text, word_text
>>> [machine_text(even), word_text(2, ""), lots_text(Table([even]), [[1, 0], []]), views_text([even, even]), pattern_text(2, ("either", ("behind", ("name", 0), ("word", "ab")), ("round", ("word", "")))), guesser_text(Guesser(2, [[[0, 1], []], [[], [1]]], [0], [1])), guesser_text(Guesser(1, [], [], []))]
['2: 1,0; 0,1 / 0', '-', '0,1; -', '2: 1,0; 0,1 / 0 & 2: 1,0; 0,1 / 0', '((X.ab)|-*)', '2: 0 / 0+1,-; -,1 / 1', '1: - / none / -']

>>> from widefills.readers import parse_guesser, parse_lots, parse_machine, parse_pattern, parse_views, parse_word
>>> [parse_machine("2:1,0;0,1/0") == even, parse_word(2, " - "), parse_pattern(2, "( Y | a* )"), parse_pattern(1, "X**"), parse_lots(Table([even]), "1 , 0;-"), len(parse_views("1:0/0&1:0/-")), guesser_text(parse_guesser("1:0/1+0;-/1"))]
[True, '', ('either', ('name', 1), ('round', ('word', 'a'))), ('round', ('round', ('name', 0))), [[0, 1], []], 2, '1: 0 / 0+1; - / 1']

>>> from widefills.claims import contrary, is_claim, is_paper_of, is_true
>>> twice, sums = ("behind", ("name", 0), ("name", 0)), Table([even])
>>> [is_true(("within", sums, 0, twice, [[1]])), is_true(("right", sums, 1, [(twice, 0)], [[0, 1]])), is_paper_of(("right", sums, 1, [(twice, 0)], [[1]]), [[1]]), is_true(("made", sums, 0, twice)), is_paper_of(("unlike", 1, ("name", 0), ("word", "")), [0]), is_claim(("told", sums, 0, Guesser(1, [], [], [])))]
[True, False, True, True, True, False]

>>> from widefills.commands import is_command, is_deed
>>> [is_command("machine m 2:1,0;0,1/0"), is_command("machine m 2: 1,0;0,1/0"), is_command("words m 2 a,-,ab"), is_command("pattern p ((X.ab)|-*)"), is_command("views v m,n"), is_deed("claim k right m 1 p f"), is_deed("fill m 1 p"), is_command("filling f 0,1;-")]
[True, False, True, True, True, True, False, True]

>>> from widefills.desk import Desk
>>> desk = Desk()
>>> desk.do_all("machine m 2:1,0;0,1/0", "pattern p (X.X)", "fill m 1 p", "filling f 1", "claim k within m p f", "claim l made m p", "grow f 0 0", "classes m", "pairs m", "show f")
['-', '-', '0 1', '-', 'k true', 'l true', 'k false', '-,a', '4', '1,0']
>>> desk.do_all("undo", "states", "words n 2 b,-", "views v m,n", "lost m v", "less m -", "first m", "star q p", "show q", "drop p")
['grow f 0 0', 'k true, l true', '-', '-', 'none', 'l false', 'b', '-', '(X.X)*', 'k gone, l gone']
'''


class Examples(unittest.TestCase):

    def test_document(self):
        self.run_all(EXAMPLES)

    def test_readme(self):
        text = (Path(__file__).resolve().parent.parent / "README.md").read_text()
        self.run_all("\n".join(text.split("```")[1::2]))

    def run_all(self, text):
        examples = doctest.DocTestParser().get_doctest(text, {}, "examples", None, 0)
        self.assertGreater(len(examples.examples), 0)
        answers = []
        result = doctest.DocTestRunner().run(examples, out=answers.append)
        self.assertEqual(result.failed, 0, "".join(answers))


if __name__ == "__main__":
    unittest.main()
