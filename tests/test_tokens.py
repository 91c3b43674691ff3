"""Points 52, 53 and 59: tokens, keywords, and where a text is refused since no token starts there."""

import itertools
import unittest

from kithwhole.errors import RefusedText
from kithwhole.tokens import KEYWORDS, tokenize, write_token

TOLD = ("select distinct from where group by having order limit as join left on union all except intersect and or not "
        "is null true false in exists case when then else end count sum min max mod desc")
SIGNS = ["(", ")", ",", ".", "+", "-", "*", "/", "=", "<>", "<", "<=", ">", ">=", "||"]


class Tokens(unittest.TestCase):
    def refused(self, text, position):
        with self.assertRaises(RefusedText, msg=text) as caught:
            tokenize(text)
        self.assertEqual(caught.exception.position, position, text)

    def test_keywords(self):
        self.assertEqual(KEYWORDS, tuple(TOLD.split()))
        for word in KEYWORDS:
            self.assertEqual(tokenize(word), [("keyword", word, 0)])
            for name in (word + "s", word + "_", word + "1", "x" + word):
                self.assertEqual(tokenize(name), [("name", name, 0)])

    def test_nothing(self):
        self.assertEqual(tokenize(""), [])
        self.assertEqual(tokenize(" \n \n"), [])

    def test_words(self):
        self.assertEqual(tokenize("a a1 a_ z_9_z"), [
            ("name", "a", 0), ("name", "a1", 2), ("name", "a_", 5), ("name", "z_9_z", 8)])
        name = "a" * 500
        self.assertEqual(tokenize(name), [("name", name, 0)])

    def test_blanks_stand_where_they_are_needed(self):
        self.assertEqual(tokenize("1a2 b"), [("integer", 1, 0), ("name", "a2", 1), ("name", "b", 4)])
        self.assertEqual(tokenize("a\n\n b "), [("name", "a", 0), ("name", "b", 4)])
        self.assertEqual(tokenize("a.b,c"), [
            ("name", "a", 0), ("sign", ".", 1), ("name", "b", 2), ("sign", ",", 3), ("name", "c", 4)])
        self.assertEqual(tokenize("a'b'c"), [("name", "a", 0), ("text", "b", 1), ("name", "c", 4)])

    def test_integers(self):
        self.assertEqual(tokenize("0 007 12"), [("integer", 0, 0), ("integer", 7, 2), ("integer", 12, 6)])
        most = "9" * 30
        self.assertEqual(tokenize(most), [("integer", int(most), 0)])
        self.assertEqual(tokenize("0" * 30 + " 1"), [("integer", 0, 0), ("integer", 1, 31)])
        self.refused(" " + "9" * 31, 1)
        self.refused("a + " + "0" * 31, 4)
        self.assertEqual(tokenize("-5"), [("sign", "-", 0), ("integer", 5, 1)])

    def test_texts(self):
        self.assertEqual(tokenize("'' 'a' 'a b'"), [("text", "", 0), ("text", "a", 3), ("text", "a b", 7)])
        self.assertEqual(tokenize("'a''b'"), [("text", "a'b", 0)])
        self.assertEqual(tokenize("'''' ''''''"), [("text", "'", 0), ("text", "''", 5)])
        self.assertEqual(tokenize("'a' 'b'"), [("text", "a", 0), ("text", "b", 4)])
        self.assertEqual(tokenize("'A;\n$!'"), [("text", "A;\n$!", 0)])
        self.assertEqual(tokenize("'''a'b"), [("text", "'a", 0), ("name", "b", 5)])

    def test_texts_without_an_end(self):
        for text in ("'", "'a", "'a''", "'''", "'a b c"):
            self.refused(text, 0)
            self.refused("ab " + text, 3)
        self.refused("'a' 'b", 4)

    def test_long_texts(self):
        self.assertEqual(tokenize("'" + "a" * 2000 + "'"), [("text", "a" * 2000, 0)])
        self.refused("x'" + "a" * 2001 + "'", 1)
        self.assertEqual(tokenize("'" + "''" * 2000 + "'"), [("text", "'" * 2000, 0)])
        self.refused("'" + "''" * 2001 + "'", 0)
        self.assertEqual(len(tokenize("'" + "a" * 2000 + "' ") * 3), 3)

    def test_parameters(self):
        self.assertEqual(tokenize("$1 $12 $0 $00 $07"), [
            ("parameter", 1, 0), ("parameter", 12, 3), ("parameter", 0, 7), ("parameter", 0, 10), ("parameter", 7, 14)])
        self.assertEqual(tokenize("$1a$2"), [("parameter", 1, 0), ("name", "a", 2), ("parameter", 2, 3)])
        self.assertEqual(tokenize("$1 2"), [("parameter", 1, 0), ("integer", 2, 3)])
        for text in ("$", "$a", "$ 1", "$123", "$$1", "$1234", "$-1", "$''"):
            self.refused(text, 0)
            self.refused(" " + text, 1)

    def test_signs(self):
        for sign in SIGNS:
            self.assertEqual(tokenize(sign), [("sign", sign, 0)])

    def test_the_longer_sign_is_read(self):
        for first, second in itertools.product(SIGNS, repeat=2):
            text = first + second
            told = [token[1] for token in tokenize(text)]
            self.assertEqual("".join(told), text)
            self.assertEqual(told, [text] if text in SIGNS else [first, second] if text != "<>=" else ["<>", "="])
        self.assertEqual([token[1] for token in tokenize("<=>")], ["<=", ">"])
        self.assertEqual([token[1] for token in tokenize("<>=")], ["<>", "="])
        self.assertEqual([token[1] for token in tokenize("<<=")], ["<", "<="])
        self.assertEqual([token[2] for token in tokenize("||||")], [0, 2])
        self.assertEqual([token[2] for token in tokenize("< =")], [0, 2])

    def test_what_starts_no_token(self):
        for sign in "|!@#&;:?[]{}\\^~`\"_ABCXYZ\t\r":
            self.refused(sign, 0)
            self.refused("a " + sign + " b", 2)
            self.refused("1\n(" + sign, 3)
        self.refused("|||", 2)
        self.refused("a|b", 1)
        self.refused("aB", 1)

    def test_the_first_such_character(self):
        self.refused("a ! $ '", 2)
        self.refused("'a' $ !", 4)
        self.refused("'!' !", 4)
        self.refused("'! ", 0)


class Written(unittest.TestCase):
    def test_each_token(self):
        tokens = [("keyword", "select", 0), ("name", "a_1", 0), ("integer", 0, 0), ("integer", 10 ** 30 - 1, 0),
                  ("text", "", 0), ("text", "a", 0), ("text", "'", 0), ("text", "a''b'", 0), ("text", "\n $1", 0),
                  ("text", "'" * 2000, 0), ("parameter", 0, 0), ("parameter", 7, 0), ("parameter", 99, 0)]
        tokens += [("sign", sign, 0) for sign in SIGNS] + [("keyword", word, 0) for word in KEYWORDS]
        for token in tokens:
            self.assertEqual(tokenize(write_token(token)), [token])

    def test_the_position_does_not_matter(self):
        self.assertEqual(write_token(("name", "a", 12)), "a")
        self.assertEqual(write_token(("text", "it's", 3)), "'it''s'")
        self.assertEqual(write_token(("parameter", 3, 5)), "$3")


if __name__ == "__main__":
    unittest.main()
