"""Point 29: the texts of keys and claims."""

import random
import unittest

from truemill.errors import BadMessage
from truemill.keys import claim_text, key_text, read_claim, read_key

RESERVED = ("set make by with from needs if else each in shape use not files flag when").split()
NOT_ALLOWED = ["%", "\t", "\r", "\x00", "\x7f", "\u00e9", "\u0661", "\u2028"]


class KeyCase(unittest.TestCase):
    def check(self, key, text):
        """Check a key and its text, in both directions."""
        self.assertEqual(key_text(key), text)
        self.assertEqual(read_key(text), key)
        self.assertEqual([type(part) for part in read_key(text)], [str, tuple, tuple])

    def bad(self, text):
        with self.assertRaises(BadMessage, msg=repr(text)):
            read_key(text)


class KeyTests(KeyCase):
    def test_keys(self):
        self.check(("upper", (), (2,)), "upper\nin 2\n")
        self.check(("join", (" ",), (1, 4)), "join\narg  \nin 1\nin 4\n")
        self.check(("swap", ("a b", "\"\\"), (3, 3, 1)), "swap\narg a b\narg \"\\\nin 3\nin 3\nin 1\n")

    def test_no_arg_and_no_name(self):
        self.check(("upper", (), ()), "upper\n")
        self.check(("join", ("a",), ()), "join\narg a\n")

    def test_tools(self):
        for tool in ("a", "a1_", "z" * 20, "a" + "_" * 19, "arg", "no_such_tool", *RESERVED):
            self.check((tool, (), ()), tool + "\n")
            self.check((tool, ("a",), (1,)), tool + "\narg a\nin 1\n")
        for tool in ("", "z" * 21, "A", "1", "_a", "1a", "a-b", "a b", " a", "a ", "a\\n", "\"a\"", "(", "==", "arg a", "in 1", "a;"):
            self.bad(tool + "\n")
            self.bad(tool + "\narg a\nin 1\n")
        for sign in NOT_ALLOWED:
            self.bad(sign + "\n")
            self.bad("a" + sign + "\n")

    def test_how_many_args(self):
        args = tuple([str(number) for number in range(13)])
        lines = ["arg " + arg + "\n" for arg in args]
        self.check(("join", args[:12], (7,)), "join\n" + "".join(lines[:12]) + "in 7\n")
        self.bad("join\n" + "".join(lines) + "in 7\n")
        self.bad("join\n" + "".join(lines))

    def test_the_length_of_args(self):
        self.check(("join", ("a" * 60, "b" * 60), ()), "join\narg " + "a" * 60 + "\narg " + "b" * 60 + "\n")
        self.bad("join\narg " + "a" * 61 + "\n")
        self.bad("join\narg " + "a" * 60 + "\narg " + "b" * 61 + "\n")

    def test_odd_args(self):
        self.check(("join", ("",), ()), "join\narg \n")
        self.check(("join", ("", ""), (1,)), "join\narg \narg \nin 1\n")
        self.check(("join", ("in 1",), (2,)), "join\narg in 1\nin 2\n")
        self.check(("join", ("arg a",), ()), "join\narg arg a\n")
        self.check(("join", ("arg ", " ", " a "), ()), "join\narg arg \narg  \narg  a \n")

    def test_signs_of_args(self):
        allowed = "".join([chr(code) for code in range(32, 127) if code != 37])
        for start in range(0, len(allowed), 50):
            part = allowed[start:start + 50]
            self.check(("join", (part,), ()), "join\narg " + part + "\n")
        for sign in NOT_ALLOWED:
            self.bad("join\narg " + sign + "\n")
            self.bad("join\narg a\narg b" + sign + "c\nin 1\n")

    def test_how_many_names(self):
        lines = [f"in {number}\n" for number in range(1, 26)]
        self.check(("join", (), tuple(range(1, 25))), "join\n" + "".join(lines[:24]))
        self.bad("join\n" + "".join(lines))

    def test_names(self):
        for name in (1, 9, 10, 12345, 90000, 99999):
            self.check(("join", ("a",), (name,)), f"join\narg a\nin {name}\n")
            self.check(("join", (), (5, name)), f"join\nin 5\nin {name}\n")
        for name in ("0", "00", "01", "099", "00001", "100000", "000001", "-1", "+1", "", " ", " 1", "1 ", "1_0", "a", "1a", "1.",
                     "0x1", "1\r", "\u0661", "\u00b2", "1\u0661", "9" * 30):
            self.bad(f"join\nin {name}\n")
            self.bad(f"join\narg a\nin 5\nin {name}\nin 6\n")

    def test_names_ahead_of_args(self):
        self.bad("join\nin 1\narg a\n")
        self.bad("join\narg a\nin 1\narg b\nin 2\n")

    def test_newlines(self):
        for text in ("join\n", "join\narg a\n", "join\nin 1\n", "join\narg a\nin 1\n"):
            read_key(text)
            self.bad(text[:-1])
            self.bad(text + "\n")
            self.bad("\n" + text)
            self.bad(text.replace("\n", "\n\n", 1))
            self.bad(text + " ")
            self.bad(text + "\n ")

    def test_other_texts(self):
        for text in ("", "\n", " ", "\n\n", "join\narg\n", "join\nin\n", "join\nargs a\n", "join\nina 1\n", "join\n arg a\n",
                     "join\n in 1\n", "join\nARG a\n", "join\nIn 1\n", "join\na\n", "join\njoin\n", "join\nin 1 2\n",
                     "join\nin 1\na\n", "join arg a\n", "arg a\njoin\n", "in 1\n", "join\r\nin 1\r\n", "join\nin\t1\n"):
            self.bad(text)

    def test_random_keys(self):
        choice = random.Random(29).choice
        for _ in range(300):
            tool = choice(["a", "join", "in", "arg"]) + choice(["", "_", "9"])
            args = tuple(["".join([choice("a \\\"9") for _ in range(choice(range(5)))]) for _ in range(choice(range(13)))])
            names = tuple([choice([1, 10, 99999, 300]) for _ in range(choice(range(25)))])
            self.assertEqual(read_key(key_text((tool, args, names))), (tool, args, names))

    def test_changed_texts(self):
        # Whatever is read is what `key_text` would write; two texts never mean the same key.
        choice = random.Random(30).choice
        text = "join\narg a\narg in 1\nin 12\nin 3\n"
        read = 0
        for _ in range(3000):
            at = choice(range(len(text)))
            changed = text[:at] + choice(["", "a", "0", "1", " ", "\n", "arg ", "in "]) + text[at + choice([0, 1, 2]):]
            try:
                key = read_key(changed)
            except BadMessage:
                continue
            read += 1
            self.assertEqual(key_text(key), changed)
        self.assertGreater(read, 300)
        self.assertLess(read, 2700)


class ClaimTests(unittest.TestCase):
    def check(self, result, text):
        self.assertEqual(claim_text(result), text)
        self.assertEqual(read_claim(text), result)

    def bad(self, text):
        with self.assertRaises(BadMessage, msg=repr(text)):
            read_claim(text)

    def test_claims(self):
        self.check(("made", "TWO"), "made\nTWO")
        self.check(("made", "a\nb\n"), "made\na\nb\n")
        self.check(("failed", "inputs differ"), "failed\ninputs differ")

    def test_empty_ones(self):
        self.check(("made", ""), "made\n")
        self.check(("failed", ""), "failed\n")
        self.check(("made", "\n"), "made\n\n")

    def test_texts_that_look_like_claims(self):
        self.check(("made", "failed\na"), "made\nfailed\na")
        self.check(("made", "made\na"), "made\nmade\na")
        self.check(("failed", "made"), "failed\nmade")
        self.bad("failed\nmade\na")

    def test_neither_word(self):
        for text in ("", "\n", "a", "made", "failed", "made ", "madea", "made a\nb", "mad\ne", "\nmade\na", " made\na", "Made\na",
                     "failed ", "fail\na", "faileda\n", "failed :\na", "made\r\na", "other\na", "mademade\n"):
            self.bad(text)

    def test_the_length_of_a_text(self):
        self.check(("made", "a" * 2000), "made\n" + "a" * 2000)
        self.bad("made\n" + "a" * 2001)

    def test_the_length_of_a_reason(self):
        self.check(("failed", "a" * 80), "failed\n" + "a" * 80)
        self.bad("failed\n" + "a" * 81)

    def test_a_reason_with_a_newline(self):
        for reason in ("\n", "a\n", "\na", "a\nb"):
            self.bad("failed\n" + reason)

    def test_bad_characters(self):
        for sign in NOT_ALLOWED:
            for told in (sign, "a" + sign, sign + "a"):
                self.bad("made\n" + told)
                self.bad("failed\n" + told)
        allowed = "".join([chr(code) for code in range(32, 127) if code != 37])
        self.check(("made", allowed), "made\n" + allowed)
        self.check(("failed", allowed[:50]), "failed\n" + allowed[:50])
        self.check(("failed", allowed[50:]), "failed\n" + allowed[50:])

    def test_long_reasons_are_written(self):
        # Reasons of failed needs can be longer than those that are read.
        self.assertEqual(claim_text(("failed", "a" * 81)), "failed\n" + "a" * 81)


if __name__ == "__main__":
    unittest.main()
