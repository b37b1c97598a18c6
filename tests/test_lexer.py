"""Point 16: tokens."""

import unittest

from truemill.lexer import tokens


class LexerCase(unittest.TestCase):
    def check(self, text, *wanted):
        self.assertEqual(tokens(text), wanted)

    def values(self, text):
        """Return the kinds and values of a text's tokens, without their places."""
        return [(kind, value) for kind, value, _, _ in tokens(text)]


class SpaceTests(LexerCase):
    def test_nothing(self):
        self.check("")
        self.check("  \n \n\n ")

    def test_lines_and_columns(self):
        self.check("a", ("word", "a", 1, 1))
        self.check("  a b\n\n c\nd\n   e  \n", ("word", "a", 1, 3), ("word", "b", 1, 5),
                   ("word", "c", 3, 2), ("word", "d", 4, 1), ("word", "e", 5, 4))

    def test_columns_behind_texts_and_signs(self):
        self.check("\"a\\n\\\"b\"==x{\n\"c\";", ("text", "a\n\"b", 1, 1), ("sign", "==", 1, 9),
                   ("word", "x", 1, 11), ("sign", "{", 1, 12), ("text", "c", 2, 1), ("sign", ";", 2, 4))

    def test_a_newline_in_a_text_begins_no_line(self):
        self.check("\"\\n\" a\nb", ("text", "\n", 1, 1), ("word", "a", 1, 6), ("word", "b", 2, 1))

    def test_the_result_is_a_tuple(self):
        self.assertIs(type(tokens("")), tuple)
        self.assertIs(type(tokens("a")), tuple)
        self.assertIs(type(tokens("!")), tuple)

    def test_more_than_600_tokens(self):
        self.assertEqual(len(tokens("a " * 700)), 700)


class WordTests(LexerCase):
    def test_characters(self):
        self.check("abc", ("word", "abc", 1, 1))
        self.check("a_1z9_", ("word", "a_1z9_", 1, 1))
        self.check("z", ("word", "z", 1, 1))

    def test_reserved_words_are_words(self):
        for word in ("set", "make", "each", "in", "not", "files", "when"):
            self.check(word, ("word", word, 1, 1))

    def test_lengths(self):
        self.check("a" * 20, ("word", "a" * 20, 1, 1))
        self.check("a" * 21, ("error", "", 1, 1))
        self.check("x " + "a1_" * 7 + " y", ("word", "x", 1, 1), ("error", "", 1, 3))
        self.check("a" * 20 + " b", ("word", "a" * 20, 1, 1), ("word", "b", 1, 22))
        self.check("a" * 20 + "(b", ("word", "a" * 20, 1, 1), ("sign", "(", 1, 21), ("word", "b", 1, 22))

    def test_what_begins_no_word(self):
        for text in ("1", "1a", "_a", "_", "A", "Abc", "9"):
            self.check(text, ("error", "", 1, 1))

    def test_what_ends_a_word(self):
        self.check("aB", ("word", "a", 1, 1), ("error", "", 1, 2))
        self.check("a-b", ("word", "a", 1, 1), ("error", "", 1, 2))
        self.check("a.b", ("word", "a", 1, 1), ("error", "", 1, 2))
        self.check("a\"b\"c", ("word", "a", 1, 1), ("text", "b", 1, 2), ("word", "c", 1, 5))


class TextTests(LexerCase):
    def test_ordinary_texts(self):
        self.check("\"\"", ("text", "", 1, 1))
        self.check("\"a b\"", ("text", "a b", 1, 1))
        self.check("\"{+=!/:A9_~ }\"", ("text", "{+=!/:A9_~ }", 1, 1))
        self.check("\"a\"\"b\"", ("text", "a", 1, 1), ("text", "b", 1, 4))

    def test_escapes(self):
        self.check("\"\\\"\"", ("text", "\"", 1, 1))
        self.check("\"\\\\\"", ("text", "\\", 1, 1))
        self.check("\"\\n\"", ("text", "\n", 1, 1))
        self.check("\"a\\\\n\\nb\\\"\\\\\"", ("text", "a\\n\nb\"\\", 1, 1))

    def test_another_character_behind_a_backslash(self):
        for sign in "abctN0'/ {":
            self.check("x \"a\\" + sign + "b\"", ("word", "x", 1, 1), ("error", "", 1, 3))
        self.check("\"a\\\nb\"", ("error", "", 1, 1))
        self.check("\"a\\", ("error", "", 1, 1))

    def test_no_end_on_the_line(self):
        self.check("\"a", ("error", "", 1, 1))
        self.check("\"", ("error", "", 1, 1))
        self.check("a\n  \"b\nc\"", ("word", "a", 1, 1), ("error", "", 2, 3))
        self.check("\"a\\\"", ("error", "", 1, 1))
        self.check("\"a\\\\\" \"", ("text", "a\\", 1, 1), ("error", "", 1, 7))

    def test_lengths(self):
        self.check("\"" + "a" * 100 + "\"", ("text", "a" * 100, 1, 1))
        self.check("\"" + "a" * 101 + "\"", ("error", "", 1, 1))

    def test_lengths_with_escapes(self):
        for escape, sign in (("\\\"", "\""), ("\\\\", "\\"), ("\\n", "\n")):
            self.check("\"" + escape * 100 + "\"", ("text", sign * 100, 1, 1))
            self.check("\"" + escape * 101 + "\"", ("error", "", 1, 1))
            self.check("\"" + escape + "a" * 99 + "\"", ("text", sign + "a" * 99, 1, 1))
            self.check("\"" + "a" * 100 + escape + "\"", ("error", "", 1, 1))

    def test_a_text_that_is_too_long_and_does_not_end(self):
        self.check(" \"" + "a" * 101, ("error", "", 1, 2))


class SignTests(LexerCase):
    def test_each_sign(self):
        for sign in ("{", "}", "[", "]", "(", ")", ",", ";", "=", "==", "!=", "+"):
            self.check(sign, ("sign", sign, 1, 1))
            self.check("a" + sign + "b", ("word", "a", 1, 1), ("sign", sign, 1, 2),
                       ("word", "b", 1, 2 + len(sign)))

    def test_signs_side_by_side(self):
        self.assertEqual(self.values("==="), [("sign", "=="), ("sign", "=")])
        self.assertEqual(self.values("===="), [("sign", "=="), ("sign", "==")])
        self.assertEqual(self.values("!=="), [("sign", "!="), ("sign", "=")])
        self.assertEqual(self.values("=!="), [("sign", "="), ("sign", "!=")])
        self.assertEqual(self.values("= ="), [("sign", "="), ("sign", "=")])
        self.assertEqual(self.values("=\n="), [("sign", "="), ("sign", "=")])
        self.assertEqual(self.values("{}[](),;+"), [("sign", sign) for sign in "{}[](),;+"])
        self.check("===", ("sign", "==", 1, 1), ("sign", "=", 1, 3))

    def test_a_mark_of_exclamation_alone(self):
        self.check("!", ("error", "", 1, 1))
        self.check("! =", ("error", "", 1, 1))
        self.check("!!=", ("error", "", 1, 1))
        self.check("a !", ("word", "a", 1, 1), ("error", "", 1, 3))

    def test_characters_that_begin_no_token(self):
        for sign in "ABZ0129_#$&'*-./:<>?@\\^`|~!":
            self.check(sign, ("error", "", 1, 1))
            self.check("a \n " + sign + " b", ("word", "a", 1, 1), ("error", "", 2, 2))


class ErrorTests(LexerCase):
    def test_the_error_ends_the_tuple(self):
        self.check("a ? b ?", ("word", "a", 1, 1), ("error", "", 1, 3))
        self.check("? a", ("error", "", 1, 1))
        self.check("\"a\nb \"c\"", ("error", "", 1, 1))


if __name__ == "__main__":
    unittest.main()
