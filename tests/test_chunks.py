"""Point 9: chunks."""

import itertools
import unittest

from samenames.chunks import chunks


def expected_chunks(text):
    """The places of the chunks, found offset by offset."""
    starts = [at for at in range(len(text)) if (at == 0 or text[at - 1] == "\n") and text[at] not in " \n"]
    return [(start, end) for start, end in zip(starts, starts[1:] + [len(text)])]


class ChunksTest(unittest.TestCase):
    def test_no_chunks(self):
        for text in ("", "\n", "\n\n\n", " ", "   ", " \n \n", " def f() = 1\n  x\n", "\n #a\n +"):
            self.assertEqual(chunks(text), [])

    def test_one_chunk(self):
        self.assertEqual(chunks("a"), [(0, 1)])
        self.assertEqual(chunks("a\n"), [(0, 2)])
        self.assertEqual(chunks("a\n b\n\n  c\n\n"), [(0, 11)])
        self.assertEqual(chunks("a\n "), [(0, 3)])

    def test_what_stands_before_the_first_chunk(self):
        self.assertEqual(chunks("\n\na\n"), [(2, 4)])
        self.assertEqual(chunks(" x\n\n  y\na\n"), [(8, 10)])

    def test_several_chunks(self):
        self.assertEqual(chunks("a\nb\nc"), [(0, 2), (2, 4), (4, 5)])
        self.assertEqual(chunks("a\n\nb\n x\n\nc\n\n"), [(0, 3), (3, 9), (9, 12)])

    def test_each_sign_but_a_space_begins_a_chunk(self):
        for number in range(33, 127):
            sign = chr(number)
            self.assertEqual(chunks("a\n" + sign + "\n"), [(0, 2), (2, 4)])

    def test_comments_and_signs(self):
        self.assertEqual(chunks("# a\ndef\n# b\n+\n)"), [(0, 4), (4, 8), (8, 12), (12, 14), (14, 15)])

    def test_every_short_text(self):
        for many in range(8):
            for signs in itertools.product("a \n", repeat=many):
                text = "".join(signs)
                self.assertEqual(chunks(text), expected_chunks(text), repr(text))

    def test_the_list_is_new_and_holds_pairs(self):
        first = chunks("a\nb")
        self.assertEqual([type(place) for place in first], [tuple, tuple])
        first.clear()
        self.assertEqual(chunks("a\nb"), [(0, 2), (2, 3)])


if __name__ == "__main__":
    unittest.main()
