"""Points 4 and 5: segments, paths, folders and patterns."""

import itertools
import random
import unittest

from truemill.paths import is_folder, is_path, is_pattern, is_segment, lies_in, matches

LETTERS = "abcdefghijklmnopqrstuvwxyz"
DIGITS = "0123456789"
# All characters of section 2, and some that are not among them.
SIGNS = "\n" + "".join(chr(code) for code in range(32, 127)) + "%\t\r\u00e9\u0661\u0430"


def replaced(piece, segment):
    """Whether a piece matches a segment, by trying all replacements of its first star."""
    if "*" not in piece:
        return piece == segment
    first, rest = piece.split("*", 1)
    if not segment.startswith(first):
        return False
    behind = segment[len(first):]
    return any(replaced(rest, behind[taken:]) for taken in range(len(behind) + 1))


def replaced_pieces(pieces, segments):
    """Whether pieces match segments, by trying how many segments each `**` may stand for."""
    doubles = pieces.count("**")
    for counts in itertools.product(range(len(segments) + 1), repeat=doubles):
        left = list(counts)
        wanted = []
        for piece in pieces:
            wanted += [None] * left.pop(0) if piece == "**" else [piece]
        if len(wanted) == len(segments) and all(
            piece is None or replaced(piece, segment) for piece, segment in zip(wanted, segments)
        ):
            return True
    return False


class SegmentTests(unittest.TestCase):
    def test_lengths(self):
        self.assertIs(is_segment(""), False)
        self.assertIs(is_segment("a"), True)
        self.assertIs(is_segment("a" * 20), True)
        self.assertIs(is_segment("a" * 21), False)

    def test_first_characters(self):
        for sign in SIGNS:
            allowed = sign in LETTERS + DIGITS
            self.assertIs(is_segment(sign), allowed, sign)
            self.assertIs(is_segment(sign + "bc"), allowed, sign)

    def test_characters_behind_the_first_one(self):
        for sign in SIGNS:
            allowed = sign in LETTERS + DIGITS + "_-."
            self.assertIs(is_segment("a" + sign), allowed, sign)
            self.assertIs(is_segment("0" + sign + "z"), allowed, sign)
            self.assertIs(is_segment("a" * 19 + sign), allowed, sign)

    def test_ordinary_segments(self):
        for text in ("main.c", "0", "9-_.", "lib-2.0_x", "a..", "a--b"):
            self.assertIs(is_segment(text), True, text)
        for text in ("Main.c", ".hidden", "-x", "_x", "a b", "a/b", "a*", "a\n", " a"):
            self.assertIs(is_segment(text), False, text)


class PathTests(unittest.TestCase):
    def test_numbers_of_segments(self):
        self.assertIs(is_path("a"), True)
        self.assertIs(is_path("a/b"), True)
        self.assertIs(is_path("a/b/c/d/e"), True)
        self.assertIs(is_path("a/b/c/d/e/f"), False)

    def test_no_segment_is_empty(self):
        for text in ("", "/", "/a", "a/", "a//b", "a/b/", "/a/b", "a/b/c/d/"):
            self.assertIs(is_path(text), False, text)

    def test_each_segment_counts(self):
        self.assertIs(is_path("a" * 20 + "/" + "b" * 20), True)
        for bad in ("A", "_a", "a" * 21, "a b", "*", "a\n"):
            for text in (bad, bad + "/a", "a/" + bad, "a/" + bad + "/b"):
                self.assertIs(is_path(text), False, text)

    def test_folders(self):
        self.assertIs(is_folder(""), True)
        self.assertIs(is_folder("a"), True)
        self.assertIs(is_folder("a/b/c/d/e"), True)
        for text in ("a/", "/", "/a", "a/b/c/d/e/f", "A", " "):
            self.assertIs(is_folder(text), False, text)


class LiesInTests(unittest.TestCase):
    def test_everything_lies_in_the_empty_folder(self):
        self.assertIs(lies_in("a", ""), True)
        self.assertIs(lies_in("a/b/c", ""), True)

    def test_in_a_folder(self):
        self.assertIs(lies_in("a/b", "a"), True)
        self.assertIs(lies_in("a/b/c", "a"), True)
        self.assertIs(lies_in("a/b/c", "a/b"), True)
        self.assertIs(lies_in("b/a", "a"), False)
        self.assertIs(lies_in("c/a/b", "a/b"), False)

    def test_not_in_itself(self):
        self.assertIs(lies_in("a", "a"), False)
        self.assertIs(lies_in("a/b", "a/b"), False)

    def test_not_in_what_is_longer(self):
        self.assertIs(lies_in("a", "a/b"), False)

    def test_not_in_the_beginning_of_a_segment(self):
        self.assertIs(lies_in("ab/c", "a"), False)
        self.assertIs(lies_in("ab", "a"), False)
        self.assertIs(lies_in("a/bc/d", "a/b"), False)
        self.assertIs(lies_in("a.b/c", "a"), False)


class PatternTests(unittest.TestCase):
    def test_stars_of_a_piece(self):
        for text in ("a", "a*", "*", "**", "***", "*a*b*", "a***", "x**"):
            self.assertIs(is_pattern(text), True, text)
        for text in ("****", "*a*b*c*", "a****", "a/****", "****/a"):
            self.assertIs(is_pattern(text), False, text)

    def test_stars_count_for_each_piece(self):
        self.assertIs(is_pattern("***/***/***/***/***"), True)

    def test_lengths_of_a_piece(self):
        self.assertIs(is_pattern("a" * 20), True)
        self.assertIs(is_pattern("a" * 21), False)
        self.assertIs(is_pattern("a" * 17 + "***"), True)
        self.assertIs(is_pattern("a" * 18 + "***"), False)
        self.assertIs(is_pattern("*/" + "a" * 21), False)

    def test_numbers_of_pieces(self):
        self.assertIs(is_pattern("**/a/*/b*/c"), True)
        self.assertIs(is_pattern("a/b/c/d/e/f"), False)
        self.assertIs(is_pattern("**/**/**/**/**"), True)
        self.assertIs(is_pattern("**/**/**/**/**/**"), False)

    def test_empty_pieces(self):
        for text in ("", "/", "/a", "a/", "a//b", "**/", "/**"):
            self.assertIs(is_pattern(text), False, text)

    def test_characters(self):
        for sign in SIGNS:
            allowed = sign in LETTERS + DIGITS + "_-.*"
            self.assertIs(is_pattern(sign), allowed, sign)
            self.assertIs(is_pattern("a/b" + sign + "c"), allowed or sign == "/", sign)


class MatchTests(unittest.TestCase):
    def check(self, pattern, yes, no):
        self.assertIs(is_pattern(pattern), True, pattern)
        for path in yes:
            self.assertIs(matches(pattern, path), True, (pattern, path))
        for path in no:
            self.assertIs(matches(pattern, path), False, (pattern, path))

    def test_without_stars(self):
        self.check("a", ["a"], ["b", "aa", "a/a", "a/b"])
        self.check("a/b.c", ["a/b.c"], ["a/bxc", "a", "b.c", "a/b.c/d"])
        self.check("-a", [], ["a", "a-a"])

    def test_a_star_alone(self):
        self.check("*", ["a", "abc", "0.9-_"], ["a/b"])
        self.check("*/*", ["a/b"], ["a", "a/b/c"])

    def test_a_star_at_an_end_of_a_piece(self):
        self.check("a*", ["a", "ab", "a.c"], ["b", "ba", "a/b"])
        self.check("*a", ["a", "ba", "aa"], ["b", "ab", "b/a"])
        self.check("*.c", ["a.c", "a.b.c"], ["a.d", "c", "a/b.c"])

    def test_a_star_within_a_piece(self):
        self.check("a*b", ["ab", "axb", "abab", "a" + "x" * 18 + "b"], ["a", "b", "aba", "a/b"])
        self.check("ab*ba", ["abba", "abxba"], ["aba", "ab", "ba"])

    def test_several_stars(self):
        self.check("*a*", ["a", "ba", "ab", "bab"], ["b", "bb"])
        self.check("a*b*c", ["abc", "aabbcc", "axbxc", "abcbc"], ["ac", "acb", "abcx"])
        self.check("*ab*ab", ["abab", "xabab", "ababab"], ["ab", "aab", "abba"])
        self.check("***", ["a", "abc"], ["a/b"])
        self.check("a**", ["a", "ab"], ["a/b", "b"])
        self.check("*a*a*", ["aa", "aba", "baab"], ["a", "ba"])

    def test_doubles_alone(self):
        self.check("**", ["a", "a/b", "a/b/c/d/e"], [])
        self.check("**/**", ["a", "a/b", "a/b/c/d/e"], [])

    def test_doubles_at_the_beginning(self):
        self.check("**/a", ["a", "b/a", "b/c/a", "a/a"], ["b", "a/b", "ba", "b/ca"])

    def test_doubles_at_the_end(self):
        self.check("a/**", ["a", "a/b", "a/b/c"], ["b", "b/a", "ab", "ab/c"])

    def test_doubles_in_the_middle(self):
        self.check("a/**/b", ["a/b", "a/x/b", "a/x/y/z/b", "a/b/b"], ["a", "b", "a/b/c", "c/a/b"])

    def test_several_doubles(self):
        self.check("**/a/**", ["a", "b/a", "a/b", "b/a/b"], ["b", "b/b", "ab"])
        self.check("**/a/**/b/**", ["a/b", "x/a/y/b/z", "a/a/b/b"], ["b/a", "a", "b", "x/b/a"])
        self.check("**/*/**", ["a", "a/b", "a/b/c/d/e"], [])
        self.check("*/**/*", ["a/b", "a/b/c"], ["a"])

    def test_all_short_pieces(self):
        pieces = ["".join(signs) for size in (1, 2, 3, 4, 5) for signs in
                  itertools.product("ab*", repeat=size)]
        segments = ["".join(signs) for size in (1, 2, 3, 4) for signs in
                    itertools.product("ab", repeat=size)]
        for piece in pieces:
            if piece != "**" and piece.count("*") <= 3:
                for segment in segments:
                    self.assertIs(matches(piece, segment), replaced(piece, segment),
                                  (piece, segment))

    def test_all_short_patterns(self):
        paths = ["/".join(segments) for size in (1, 2, 3, 4, 5) for segments in
                 itertools.product(["a", "ab"], repeat=size)]
        for size in (1, 2, 3):
            for pieces in itertools.product(["**", "*", "a", "a*b"], repeat=size):
                for path in paths:
                    wanted = replaced_pieces(list(pieces), path.split("/"))
                    self.assertIs(matches("/".join(pieces), path), wanted, (pieces, path))

    def test_long_patterns(self):
        choice = random.Random(5).choice
        for _ in range(2000):
            pieces = [choice(["**", "**", "*", "a", "*b", "a*"]) for _ in range(5)]
            segments = [choice(["a", "b", "ab"]) for _ in range(choice([3, 4, 5]))]
            wanted = replaced_pieces(pieces, segments)
            self.assertIs(matches("/".join(pieces), "/".join(segments)), wanted)


if __name__ == "__main__":
    unittest.main()
