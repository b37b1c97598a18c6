"""Point 28: the tools."""

import random
import unittest

from truemill.tools import lines_of, run_tool

TOOLS = "join pick sort head swap upper count same need".split()
# Args that each tool takes, by their number.
GOOD_ARGS = {
    "join": [(), (",",)], "pick": [("a",)], "sort": [()], "head": [("1",)], "swap": [("a", "b")],
    "upper": [()], "count": [()], "same": [()], "need": [("",)],
}


def made(text):
    return ("made", text)


def failed(reason):
    return ("failed", reason)


class LinesTests(unittest.TestCase):
    def test_lines(self):
        self.assertEqual(lines_of(""), ())
        self.assertEqual(lines_of("a"), ("a",))
        self.assertEqual(lines_of("a\n"), ("a",))
        self.assertEqual(lines_of("a\nb"), ("a", "b"))
        self.assertEqual(lines_of("a\nb\n"), ("a", "b"))
        self.assertEqual(lines_of(" a \n b"), (" a ", " b"))

    def test_empty_lines(self):
        self.assertEqual(lines_of("\n"), ("",))
        self.assertEqual(lines_of("\n\n"), ("", ""))
        self.assertEqual(lines_of("\na"), ("", "a"))
        self.assertEqual(lines_of("a\n\n"), ("a", ""))
        self.assertEqual(lines_of("a\n\n\n"), ("a", "", ""))
        self.assertEqual(lines_of("a\n\nb"), ("a", "", "b"))

    def test_only_newlines_end_lines(self):
        self.assertEqual(lines_of("a\rb\x0bc\x0cd\x85e"), ("a\rb\x0bc\x0cd\x85e",))


class ArgsTests(unittest.TestCase):
    def test_no_such_tool(self):
        for tool in ("", "joins", "Join", "made", "set", "join ", "uppe"):
            for args in ((), ("a",), ("a", "b", "c")):
                self.assertEqual(run_tool(tool, args, ("a",)), failed("no such tool"))

    def test_how_many_args(self):
        for tool in TOOLS:
            numbers = [len(args) for args in GOOD_ARGS[tool]]
            for args in GOOD_ARGS[tool]:
                self.assertEqual(run_tool(tool, args, ("a",))[0], "made", (tool, args))
            for number in range(5):
                if number not in numbers:
                    self.assertEqual(run_tool(tool, ("1",) * number, ("1",)), failed("wrong args"), (tool, number))

    def test_the_arg_of_head(self):
        for arg in ("0", "1", "9", "00", "01", "10", "99"):
            self.assertEqual(run_tool("head", (arg,), ())[0], "made", arg)
        for arg in ("", "100", "000", "001", "a", "1a", "a1", "-1", "+1", " 1", "1 ", "1.", "1\n", "\n", "1_"):
            self.assertEqual(run_tool("head", (arg,), ("a",)), failed("wrong args"), arg)
        for arg in ("\u00b2", "\u0661", "1\u0661"):
            self.assertEqual(run_tool("head", (arg,), ("a",)), failed("wrong args"))

    def test_the_args_of_swap(self):
        self.assertEqual(run_tool("swap", ("", "a"), ("a",)), failed("wrong args"))
        self.assertEqual(run_tool("swap", ("", ""), ()), failed("wrong args"))
        self.assertEqual(run_tool("swap", ("a", ""), ("a",)), made(""))

    def test_empty_args(self):
        self.assertEqual(run_tool("join", ("",), ("a", "b")), made("ab"))
        self.assertEqual(run_tool("pick", ("",), ("a\n\nb",)), made("a\n\nb\n"))
        self.assertEqual(run_tool("need", ("",), ("a", "")), made("a"))


class ToolTests(unittest.TestCase):
    def test_join(self):
        self.assertEqual(run_tool("join", (), ()), made(""))
        self.assertEqual(run_tool("join", (), ("a",)), made("a"))
        self.assertEqual(run_tool("join", (), ("a\n", "b", "", "c\n\n")), made("a\nbc\n\n"))
        self.assertEqual(run_tool("join", (", ",), ()), made(""))
        self.assertEqual(run_tool("join", (", ",), ("a",)), made("a"))
        self.assertEqual(run_tool("join", (", ",), ("a", "", "b\n")), made("a, , b\n"))

    def test_pick(self):
        self.assertEqual(run_tool("pick", ("a",), ()), made(""))
        self.assertEqual(run_tool("pick", ("a",), ("b\nc",)), made(""))
        self.assertEqual(run_tool("pick", ("a",), ("ab\nb\nba",)), made("ab\nba\n"))
        self.assertEqual(run_tool("pick", ("ab",), ("a\nb\nab\nxaby\n", "", "ba", "ab")), made("ab\nxaby\nab\n"))
        self.assertEqual(run_tool("pick", ("\n",), ("a\nb\n",)), made(""))

    def test_lines_do_not_go_on_in_the_next_input(self):
        self.assertEqual(run_tool("pick", ("a",), ("a", "b")), made("a\n"))
        self.assertEqual(run_tool("pick", ("ab",), ("a", "b")), made(""))
        self.assertEqual(run_tool("sort", (), ("b", "a")), made("a\nb\n"))
        self.assertEqual(run_tool("count", (), ("b", "a")), made("2\n"))
        self.assertEqual(run_tool("head", ("9",), ("b", "a")), made("b\na\n"))

    def test_sort(self):
        self.assertEqual(run_tool("sort", (), ()), made(""))
        self.assertEqual(run_tool("sort", (), ("",)), made(""))
        self.assertEqual(run_tool("sort", (), ("b\na\nc",)), made("a\nb\nc\n"))
        self.assertEqual(run_tool("sort", (), ("b\n\na\n", "\nb\n")), made("\n\na\nb\nb\n"))
        self.assertEqual(run_tool("sort", (), ("ab\na\nB\n10\n9\n a\n~",)), made(" a\n10\n9\nB\na\nab\n~\n"))

    def test_head(self):
        lines = [f"{number}" for number in range(120)]
        text = "\n".join(lines)
        for arg, most in (("0", 0), ("00", 0), ("1", 1), ("01", 1), ("07", 7), ("7", 7), ("10", 10), ("99", 99)):
            self.assertEqual(run_tool("head", (arg,), (text,)), made("".join([line + "\n" for line in lines[:most]])))
        self.assertEqual(run_tool("head", ("3",), ("a\n", "", "b\nc\nd")), made("a\nb\nc\n"))
        self.assertEqual(run_tool("head", ("3",), ("\n\na",)), made("\n\na\n"))
        self.assertEqual(run_tool("head", ("3",), ("a", "b")), made("a\nb\n"))
        self.assertEqual(run_tool("head", ("3",), ()), made(""))

    def test_swap(self):
        self.assertEqual(run_tool("swap", ("a", "b"), ()), made(""))
        self.assertEqual(run_tool("swap", ("a", "b"), ("aba\n", "ca")), made("bbb\ncb"))
        self.assertEqual(run_tool("swap", ("a", "aa"), ("aba",)), made("aabaa"))
        self.assertEqual(run_tool("swap", ("x", "b"), ("aba",)), made("aba"))

    def test_swap_from_the_left_to_the_right(self):
        self.assertEqual(run_tool("swap", ("aa", "b"), ("aaa",)), made("ba"))
        self.assertEqual(run_tool("swap", ("aa", "b"), ("aaaa",)), made("bb"))
        self.assertEqual(run_tool("swap", ("aba", "x"), ("ababa aba",)), made("xba x"))
        self.assertEqual(run_tool("swap", ("ab", ""), ("aabb",)), made("ab"))
        self.assertEqual(run_tool("swap", ("ab", "b"), ("aab",)), made("ab"))

    def test_swap_in_the_joined_inputs(self):
        self.assertEqual(run_tool("swap", ("ab", "x"), ("a", "b")), made("x"))
        self.assertEqual(run_tool("swap", ("a\nb", "x"), ("a\n", "", "b")), made("x"))
        self.assertEqual(run_tool("swap", ("\n", ""), ("a\n", "b\n")), made("ab"))

    def test_upper(self):
        self.assertEqual(run_tool("upper", (), ()), made(""))
        self.assertEqual(run_tool("upper", (), ("aZ9_\n", "b ~")), made("AZ9_\nB ~"))

    def test_count(self):
        self.assertEqual(run_tool("count", (), ()), made("0\n"))
        self.assertEqual(run_tool("count", (), ("", "")), made("0\n"))
        self.assertEqual(run_tool("count", (), ("a",)), made("1\n"))
        self.assertEqual(run_tool("count", (), ("a\n\nb\n", "\n", "c")), made("5\n"))
        self.assertEqual(run_tool("count", (), ("\n" * 2000,) * 5), made("10000\n"))

    def test_same(self):
        self.assertEqual(run_tool("same", (), ()), made(""))
        self.assertEqual(run_tool("same", (), ("a",)), made("a"))
        self.assertEqual(run_tool("same", (), ("a\n", "a\n", "a\n")), made("a\n"))
        for inputs in (("a", "b"), ("a", "a", "b"), ("a", "b", "a"), ("a", "a\n"), ("", "a")):
            self.assertEqual(run_tool("same", (), inputs), failed("inputs differ"))

    def test_need(self):
        self.assertEqual(run_tool("need", ("a",), ()), made(""))
        self.assertEqual(run_tool("need", ("a",), ("a", "ba\n", "ab")), made("aba\nab"))
        self.assertEqual(run_tool("need", ("a",), ("b",)), failed("input 1 lacks it"))
        self.assertEqual(run_tool("need", ("a",), ("a", "b", "c")), failed("input 2 lacks it"))
        self.assertEqual(run_tool("need", ("ab",), ("ab", "ab", "a", "ab")), failed("input 3 lacks it"))
        self.assertEqual(run_tool("need", ("ab",), ("ab",) * 23 + ("",)), failed("input 24 lacks it"))
        self.assertEqual(run_tool("need", ("b\na",), ("b\na",)), made("b\na"))


class LengthTests(unittest.TestCase):
    def check(self, tool, args, inputs):
        """Check that the inputs give 2000 characters, and none with one character more."""
        kind, text = run_tool(tool, args, inputs)
        self.assertEqual((kind, len(text)), ("made", 2000), tool)
        longer = tuple(["x" + inputs[0], *inputs[1:]])
        self.assertEqual(run_tool(tool, args, longer), failed("too long"), tool)

    def test_lengths(self):
        text = "a" * 1000
        self.check("join", (), (text, text))
        self.check("join", ("--",), (text, "a" * 998))
        self.check("pick", ("a",), (text, "a" * 998))
        self.check("sort", (), (text + "\n" + "a" * 998,))
        self.check("head", ("2",), (text, "a" * 998, "b"))
        self.check("swap", ("b", "cc"), (text, "b" * 500))
        self.check("upper", (), (text, text))
        self.check("same", (), ("a" * 2000,))
        self.check("need", ("a",), (text, text))

    def test_an_input_may_be_longer_than_the_result(self):
        text = "a\n" * 1000
        self.assertEqual(run_tool("head", ("2",), (text, text)), made("a\na\n"))
        self.assertEqual(run_tool("pick", ("b",), (text, text)), made(""))
        self.assertEqual(run_tool("count", (), (text, text)), made("2000\n"))
        self.assertEqual(run_tool("swap", ("a\n", ""), (text, text)), made(""))
        self.assertEqual(run_tool("same", (), (text, text)), made(text))


class OrderTests(unittest.TestCase):
    def test_the_tool_comes_before_its_args(self):
        self.assertEqual(run_tool("none", ("a",) * 9, ("a" * 2001,)), failed("no such tool"))

    def test_the_args_come_before_the_inputs(self):
        self.assertEqual(run_tool("same", ("a",), ("a", "b")), failed("wrong args"))
        self.assertEqual(run_tool("need", (), ("a", "b")), failed("wrong args"))
        self.assertEqual(run_tool("need", ("a", "b"), ("x",)), failed("wrong args"))
        self.assertEqual(run_tool("upper", ("a",), ("a" * 2000, "b")), failed("wrong args"))
        self.assertEqual(run_tool("swap", ("", "b"), ("a" * 2000, "b")), failed("wrong args"))
        self.assertEqual(run_tool("head", ("100",), ("a" * 2000, "b")), failed("wrong args"))

    def test_the_length_comes_last(self):
        long = "a" * 2000
        self.assertEqual(run_tool("same", (), (long + "a", "b")), failed("inputs differ"))
        self.assertEqual(run_tool("same", (), (long + "a", long + "a")), failed("too long"))
        self.assertEqual(run_tool("need", ("b",), (long, long)), failed("input 1 lacks it"))
        self.assertEqual(run_tool("need", ("a",), (long, "ab", "b")), failed("input 3 lacks it"))
        self.assertEqual(run_tool("need", ("a",), (long, "ab")), failed("too long"))


class ArgumentTests(unittest.TestCase):
    def test_inputs_stay_as_they_were(self):
        for tool in TOOLS:
            for args in GOOD_ARGS[tool]:
                inputs = ["b\na", "a\n\nc\n", "a"]
                given = list(args)
                run_tool(tool, given, inputs)
                self.assertEqual(inputs, ["b\na", "a\n\nc\n", "a"])
                self.assertEqual(given, list(args))
                self.assertEqual(run_tool(tool, given, inputs), run_tool(tool, args, tuple(inputs)))

    def test_swap_and_lines_in_a_plain_way(self):
        choice = random.Random(28).choice
        for _ in range(500):
            text = "".join([choice("ab\n") for _ in range(choice(range(12)))])
            first = "".join([choice("ab\n") for _ in range(choice(range(1, 4)))])
            second = choice(["", "a", "ab", first])
            swapped = ""
            rest = text
            while rest:
                if rest[:len(first)] == first:
                    swapped += second
                    rest = rest[len(first):]
                else:
                    swapped += rest[0]
                    rest = rest[1:]
            self.assertEqual(run_tool("swap", (first, second), (text[:3], text[3:])), made(swapped))
            ended = text if text == "" or text.endswith("\n") else text + "\n"
            self.assertEqual("".join([line + "\n" for line in lines_of(text)]), ended)
            self.assertFalse(any("\n" in line for line in lines_of(text)))


if __name__ == "__main__":
    unittest.main()
