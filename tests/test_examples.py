"""The examples of the document, as they stand there."""

import doctest
import unittest

EXAMPLES = '''
>>> from widefills.basics import is_count, is_integer
>>> from widefills.words import first_words, is_word
>>> [is_integer(True), is_count(3), is_word(1, "ab"), is_word(2, ""), is_word(2, 5), first_words(2, 2)]
[False, True, False, True, False, ['', 'a', 'b', 'aa', 'ab', 'ba', 'bb']]

>>> from widefills.machines import Machine, is_empty, lets, shortest, words_of
>>> even = Machine(2, [[1, 0], [0, 1]], [0])
>>> [even == Machine(2, [[2, 0], [0, 3], [3, 2], [0, 1]], [0, 1]), Machine(1, [[1], [1], [0]], [1, 2]).states, lets(even, "aba"), lets(even, "ab"), is_empty(Machine(1, [[0]], [])), shortest(Machine(2, [[0, 1], [1, 1]], [1])), words_of(even, 2)]
[False, 2, True, False, True, 'b', ['', 'b', 'aa', 'bb']]
'''


class Examples(unittest.TestCase):

    def test_examples(self):
        examples = doctest.DocTestParser().get_doctest(EXAMPLES, {}, "document", "DOC.md", 0)
        self.assertGreater(len(examples.examples), 0)
        answers = []
        result = doctest.DocTestRunner().run(examples, out=answers.append)
        self.assertEqual(result.failed, 0, "".join(answers))


if __name__ == "__main__":
    unittest.main()
