"""Points 17 to 19: the grammar, its trees and its errors."""

import random
import unittest

from earley import first_bad, word_of

from truemill.errors import SyntaxProblem
from truemill.lexer import tokens
from truemill.parser import parse

RESERVED = ("set make by with from needs if else each in shape use not files flag when").split()


class ParserCase(unittest.TestCase):
    def bad_place(self, text):
        with self.assertRaises(SyntaxProblem, msg=text) as caught:
            parse(text)
        return (caught.exception.line, caught.exception.column)

    def value_of(self, text):
        """Return the node of an expression that begins at line 2, column 1."""
        statement, = parse("set x =\n" + text + ";")
        self.assertEqual(statement[:4], ("set", 1, 1, "x"))
        return statement[4]

    def condition_of(self, text):
        """Return the node of a condition that begins at line 2, column 1."""
        statement, = parse("if\n" + text + "{}")
        self.assertEqual(statement[:3], ("if", 1, 1))
        return statement[3]


class StatementTests(ParserCase):
    def test_no_statements(self):
        for text in ("", " ", "\n", "  \n\n   \n "):
            self.assertEqual(parse(text), ())

    def test_set(self):
        self.assertEqual(parse("set x = \"a\";"), (("set", 1, 1, "x", ("text", 1, 9, "a")),))

    def test_several(self):
        self.assertEqual(parse("set x=y;\n  set y = x ;"), (
            ("set", 1, 1, "x", ("name", 1, 7, "y")), ("set", 2, 3, "y", ("name", 2, 11, "x"))))

    def test_make(self):
        self.assertEqual(parse("make \"a\" by b;"),
                         (("make", 1, 1, ("text", 1, 6, "a"), "b", None, None, None),))
        self.assertEqual(parse("make a by b with c from d needs e;"),
                         (("make", 1, 1, ("name", 1, 6, "a"), "b", ("name", 1, 18, "c"),
                           ("name", 1, 25, "d"), ("name", 1, 33, "e")),))

    def test_the_parts_of_a_make(self):
        parts = {"with": 5, "from": 6, "needs": 7}
        for left in range(8):
            text = "make a by b"
            wanted = ["make", 1, 1, ("name", 1, 6, "a"), "b", None, None, None]
            for at, (word, place) in enumerate(parts.items()):
                if left >> at & 1:
                    wanted[place] = ("name", 1, len(text) + len(word) + 3, "p")
                    text += " " + word + " p"
            self.assertEqual(parse(text + ";"), (tuple(wanted),))

    def test_if(self):
        compare = ("compare", 1, 4, False, "==", ("name", 1, 4, "a"), ("name", 1, 9, "b"))
        inner = ("use", 1, 13, "f", ())
        self.assertEqual(parse("if a == b {}"), (("if", 1, 1, compare, (), ()),))
        self.assertEqual(parse("if a == b {}else{}"), (("if", 1, 1, compare, (), ()),))
        self.assertEqual(parse("if a == b { use f(); }"), (("if", 1, 1, compare, (inner,), ()),))
        self.assertEqual(parse("if a == b { use f(); } else {}"), (("if", 1, 1, compare, (inner,), ()),))
        self.assertEqual(parse("if a == b { use f(); } else {\nuse g(); use h();}"), (
            ("if", 1, 1, compare, (inner,), (("use", 2, 1, "g", ()), ("use", 2, 10, "h", ()))),))

    def test_each(self):
        self.assertEqual(parse("each x in y {}"), (("each", 1, 1, "x", ("name", 1, 11, "y"), ()),))
        self.assertEqual(parse("each x in [] {\n set z = x;\n}"), (
            ("each", 1, 1, "x", ("list", 1, 11, ()), (("set", 2, 2, "z", ("name", 2, 10, "x")),)),))

    def test_shape(self):
        self.assertEqual(parse("shape f() {}"), (("shape", 1, 1, "f", (), ()),))
        self.assertEqual(parse("shape f(a) {}"), (("shape", 1, 1, "f", ("a",), ()),))
        self.assertEqual(parse(" shape f(a, b, a) { use g(); }"), (
            ("shape", 1, 2, "f", ("a", "b", "a"), (("use", 1, 21, "g", ()),)),))

    def test_use(self):
        self.assertEqual(parse("use f();"), (("use", 1, 1, "f", ()),))
        self.assertEqual(parse("use f(a);"), (("use", 1, 1, "f", (("name", 1, 7, "a"),)),))
        self.assertEqual(parse("use f(a, \"b\", []);"), (
            ("use", 1, 1, "f", (("name", 1, 7, "a"), ("text", 1, 10, "b"), ("list", 1, 15, ()))),))

    def test_blocks_in_blocks(self):
        self.assertEqual(parse("shape f() {\n  each x in y {\n    if x in y {\n    } else {\n      use g();\n    }\n  }\n}"), (
            ("shape", 1, 1, "f", (), (
                ("each", 2, 3, "x", ("name", 2, 13, "y"), (
                    ("if", 3, 5, ("compare", 3, 8, False, "in", ("name", 3, 8, "x"), ("name", 3, 13, "y")), (), (
                        ("use", 5, 7, "g", ()),)),)),)),))

    def test_shapes_stand_in_blocks_too(self):
        self.assertEqual(parse("each x in y { shape f() {} }")[0][5], (("shape", 1, 15, "f", (), ()),))

    def test_everything_is_a_tuple(self):
        def check(node):
            self.assertIn(type(node), (tuple, str, int, bool, type(None)))
            if type(node) is tuple:
                for part in node:
                    check(part)
        check(parse("shape f(a) { set x = [y, z] + [y each y in [] when not x != files(\"*\")]; use f(a, b); }"
                    "make \"a\" by b with []; each x in y { if x in y {} else { use f(); } }"))


class ExpressionTests(ParserCase):
    def test_terms(self):
        self.assertEqual(self.value_of("\"a\\n\\\"\""), ("text", 2, 1, "a\n\""))
        self.assertEqual(self.value_of("abc_1"), ("name", 2, 1, "abc_1"))
        self.assertEqual(self.value_of("files(\"a/*\")"), ("files", 2, 1, "a/*"))
        self.assertEqual(self.value_of("flag ( \"a b\" )"), ("flag", 2, 1, "a b"))

    def test_lists(self):
        self.assertEqual(self.value_of("[]"), ("list", 2, 1, ()))
        self.assertEqual(self.value_of("[ ]"), ("list", 2, 1, ()))
        self.assertEqual(self.value_of("[a]"), ("list", 2, 1, (("name", 2, 2, "a"),)))
        self.assertEqual(self.value_of("[a, \"b\" ,\nc]"), ("list", 2, 1, (
            ("name", 2, 2, "a"), ("text", 2, 5, "b"), ("name", 3, 1, "c"))))
        self.assertEqual(self.value_of("[[], [a]]"), ("list", 2, 1, (
            ("list", 2, 2, ()), ("list", 2, 6, (("name", 2, 7, "a"),)))))

    def test_maps(self):
        self.assertEqual(self.value_of("[a each x in y]"), (
            "map", 2, 1, ("name", 2, 2, "a"), "x", ("name", 2, 14, "y"), None))
        self.assertEqual(self.value_of("[x + \"b\" each x in y when not x == y]"), (
            "map", 2, 1, ("sum", 2, 2, ("name", 2, 2, "x"), ("text", 2, 6, "b")), "x", ("name", 2, 20, "y"),
            ("compare", 2, 27, True, "==", ("name", 2, 31, "x"), ("name", 2, 36, "y"))))

    def test_sums(self):
        a, b, c = ("name", 2, 1, "a"), ("name", 2, 5, "b"), ("name", 2, 9, "c")
        self.assertEqual(self.value_of("a + b"), ("sum", 2, 1, a, b))
        self.assertEqual(self.value_of("a + b + c"), ("sum", 2, 1, ("sum", 2, 1, a, b), c))

    def test_the_place_of_a_sum_is_that_of_its_first_term(self):
        self.assertEqual(self.value_of("  [ ] +\n a + b"), (
            "sum", 2, 3, ("sum", 2, 3, ("list", 2, 3, ()), ("name", 3, 2, "a")), ("name", 3, 6, "b")))

    def test_sums_in_all_places(self):
        a = ("sum", 1, 6, ("name", 1, 6, "a"), ("name", 1, 8, "b"))
        self.assertEqual(parse("make a+b by c;"), (("make", 1, 1, a, "c", None, None, None),))
        self.assertEqual(self.value_of("[a+b,c+d]"), ("list", 2, 1, (
            ("sum", 2, 2, ("name", 2, 2, "a"), ("name", 2, 4, "b")),
            ("sum", 2, 6, ("name", 2, 6, "c"), ("name", 2, 8, "d")))))


class ConditionTests(ParserCase):
    def test_signs(self):
        for sign in ("==", "!=", "in"):
            self.assertEqual(self.condition_of("a " + sign + " b"), (
                "compare", 2, 1, False, sign, ("name", 2, 1, "a"), ("name", 2, 4 + len(sign), "b")))

    def test_not(self):
        self.assertEqual(self.condition_of("not a == b"), (
            "compare", 2, 1, True, "==", ("name", 2, 5, "a"), ("name", 2, 10, "b")))
        self.assertIs(self.condition_of("not a in b")[3], True)
        self.assertIs(self.condition_of("a in b")[3], False)

    def test_sums(self):
        self.assertEqual(self.condition_of("a + b in c + d"), (
            "compare", 2, 1, False, "in", ("sum", 2, 1, ("name", 2, 1, "a"), ("name", 2, 5, "b")),
            ("sum", 2, 10, ("name", 2, 10, "c"), ("name", 2, 14, "d"))))


class FaultTests(ParserCase):
    def test_a_token_that_cannot_stand(self):
        # The last token of each text is the one that cannot stand.
        for text in (
            "x", "=", "\"a\"", ";", "}", "else", "in", "with", "not",
            "set =", "set set", "set \"a\"", "set x ;", "set x ==", "set x = ;", "set x = y set",
            "set x = y z", "set x = y )", "set x = +", "set x = y + ;", "set x = y + +", "set x = in",
            "set x = {", "set x = (", "set x = not", "set x = files ;", "set x = files ( x", "set x = files ( )",
            "set x = files ( \"a\" ,", "set x = files ( \"a\" +", "set x = flag [", "set x = flag ( files",
            "set x = [ ,", "set x = [ ;", "set x = [ a ;", "set x = [ a , ]", "set x = [ a , ,", "set x = [ a b",
            "set x = [ a )", "set x = [ a in", "set x = [ a when", "set x = [ a , b each", "set x = [ each",
            "set x = [ a each in", "set x = [ a each y =", "set x = [ a each y in ]", "set x = [ a each y in b ,",
            "set x = [ a each y in b when ]", "set x = [ a each y in b when c ]",
            "set x = [ a each y in b when c in d ,", "set x = [ a each y in b each", "set x = [ a each y in b if",
            "set x = [ a each y in b when c == d ==", "set x = [ ] [",
            "make ;", "make by", "make a ;", "make a with", "make a by ;", "make a by make", "make a by \"b\"",
            "make a by b by", "make a by b c", "make a by b with ;", "make a by b with from",
            "make a by b from c with", "make a by b needs c from", "make a by b with c with",
            "make a by b from c from", "make a by b needs c needs", "make a by b needs c with",
            "make a by b with c ,", "make a by b }",
            "if {", "if a {", "if a ;", "if a =", "if a == {", "if not not", "if not {", "if a == b ;",
            "if a == b ==", "if a == b }", "if a == b { } else ;", "if a == b { } else if", "if a == b { } }",
            "if a == b { else", "if a == b { } else { } else", "if a in b in", "if a not", "if (",
            "each in", "each \"x\"", "each x =", "each x in {", "each x in y ;", "each x in y { } else",
            "each x in y when", "each files",
            "shape (", "shape f {", "shape f ;", "shape f ( ,", "shape f ( \"a\"", "shape f ( a b",
            "shape f ( a , )", "shape f ( a ) ;", "shape f ( in", "shape f ( ) { ;", "shape f ( a =", "shape shape",
            "use ;", "use f ;", "use f {", "use f ( ,", "use f ( a b", "use f ( a , )", "use f ( ) {",
            "use f ( a ) )", "use f ( a ]", "use f ( ) ; )", "use use",
        ):
            with self.subTest(text):
                column = text.rfind(" ") + 2
                self.assertEqual(self.bad_place(text), (1, column))
                self.assertEqual(self.bad_place(text + " x ; ?"), (1, column))
                lines = text.replace(" ", "\n")
                self.assertEqual(self.bad_place(lines), (lines.count("\n") + 1, 1))

    def test_a_reserved_word_is_no_name(self):
        for word in RESERVED:
            self.assertEqual(self.bad_place("set " + word + " = a;"), (1, 5), word)
            self.assertEqual(self.bad_place("make a by " + word + ";"), (1, 11), word)
            self.assertEqual(self.bad_place("each " + word + " in a {}"), (1, 6), word)
            self.assertEqual(self.bad_place("shape " + word + "() {}"), (1, 7), word)
            self.assertEqual(self.bad_place("shape f(a, " + word + ") {}"), (1, 12), word)
            self.assertEqual(self.bad_place("use " + word + "();"), (1, 5), word)
            self.assertEqual(self.bad_place("set x = [a each " + word + " in b];"), (1, 17), word)
            if word not in ("files", "flag"):
                self.assertEqual(self.bad_place("set x = " + word + ";"), (1, 9), word)
            else:
                self.assertEqual(self.bad_place("set x = " + word + ";"), (1, 9 + len(word)), word)

    def test_longer_words_are_names(self):
        for word in RESERVED:
            for name in (word + "s", word + "_", word[:-1] + "x", "x" + word):
                if name not in RESERVED:
                    self.assertEqual(parse("set " + name + " = " + name + ";"), (
                        ("set", 1, 1, name, ("name", 1, 8 + len(name), name)),))

    def test_a_text_is_no_sign_and_no_word(self):
        self.assertEqual(self.bad_place("\"set\" x = y;"), (1, 1))
        self.assertEqual(self.bad_place("set x \"=\" y;"), (1, 7))
        self.assertEqual(self.bad_place("set \"x\" = y;"), (1, 5))
        self.assertEqual(self.bad_place("set x = y \";\""), (1, 11))
        self.assertEqual(self.bad_place("if \"not\" a == b {}"), (1, 10))
        self.assertEqual(self.bad_place("if a \"in\" b {}"), (1, 6))
        self.assertEqual(self.bad_place("set x = [a \"]\";"), (1, 12))
        self.assertEqual(self.value_of("\"files\""), ("text", 2, 1, "files"))
        self.assertEqual(self.value_of("[\"[\", \"]\"]"), ("list", 2, 1, (("text", 2, 2, "["), ("text", 2, 7, "]"))))

    def test_faults_of_tokens(self):
        self.assertEqual(self.bad_place("?"), (1, 1))
        self.assertEqual(self.bad_place("set x = y;\n  \"a"), (2, 3))
        self.assertEqual(self.bad_place("set x = ?"), (1, 9))
        self.assertEqual(self.bad_place("set x = \"a\nb\";"), (1, 9))
        self.assertEqual(self.bad_place("set x = " + "a" * 21 + ";"), (1, 9))
        self.assertEqual(self.bad_place("set x = y; !"), (1, 12))
        self.assertEqual(self.bad_place("set x = \"" + "a" * 101 + "\";"), (1, 9))
        self.assertEqual(self.bad_place("set x = \"\\t\";"), (1, 9))

    def test_what_comes_first(self):
        self.assertEqual(self.bad_place("set x y ?"), (1, 7))
        self.assertEqual(self.bad_place("set x ? y y"), (1, 7))
        self.assertEqual(self.bad_place("set x = y; y \"a"), (1, 12))

    def test_a_file_that_ends_too_early(self):
        whole = "make a by b with [c each d in e when not f == g] from [h, i] needs j + k;"
        for end, sign in enumerate(whole):
            if sign == " ":
                self.assertEqual(self.bad_place(whole[:end]), (1, end + 1))
                self.assertEqual(self.bad_place(whole[:end + 1]), (1, end + 2))
                self.assertEqual(self.bad_place(whole[:end] + "\n"), (2, 1))
                self.assertEqual(self.bad_place(whole[:end] + "\n\n  "), (3, 3))
                self.assertEqual(self.bad_place("\n" + whole[:end]), (2, end + 1))
        for text in ("set", "each x in y {", "if a == b { use f();", "if a in b {} else", "shape f(", "use f(a",
                     "use f()", "set x = files(", "if not", "set x = [", "set x = [a,", "each x in y { each"):
            self.assertEqual(self.bad_place(text), (1, len(text) + 1))
            self.assertEqual(self.bad_place(text + "\n"), (2, 1))
            self.assertEqual(self.bad_place(text + " \n \n "), (3, 2))

    def test_a_fault_behind_the_newline(self):
        self.assertEqual(self.bad_place("set x =\n?"), (2, 1))
        self.assertEqual(self.bad_place("set x =\n \"a"), (2, 2))
        self.assertEqual(self.bad_place("each x in y {\n!"), (2, 1))
        self.assertEqual(self.bad_place("\n\n "+"b" * 21), (3, 2))


class LimitTests(ParserCase):
    def test_terms(self):
        def sum_of(count):
            return " + ".join(["a"] * count)
        self.assertEqual(self.value_of(sum_of(20))[:3], ("sum", 2, 1))
        self.assertEqual(self.bad_place("set x =\n" + sum_of(21) + ";"), (2, 20 * 4 - 1))
        self.assertEqual(self.bad_place("set x =\n" + sum_of(20) + " + ;"), (2, 20 * 4 - 1))
        self.assertEqual(self.bad_place("set x =\n" + sum_of(25) + ";"), (2, 20 * 4 - 1))

    def test_terms_are_counted_for_each_expression(self):
        sum20 = " + ".join(["a"] * 20)
        self.assertEqual(len(self.value_of("[" + ", ".join([sum20] * 3) + "]")[3]), 3)
        self.value_of(" + ".join(["[" + sum20 + "]"] * 10))
        self.condition_of(sum20 + " in " + sum20)
        parse("make " + sum20 + " by b with " + sum20 + " from " + sum20 + " needs " + sum20 + ";")
        self.assertEqual(self.bad_place("use f(" + sum20 + ",\n" + sum20 + " + a);"), (2, 79))

    def test_terms_of_a_deep_sum(self):
        node = self.value_of(" + ".join(f"a{number}" for number in range(20)))
        for number in range(19, 0, -1):
            self.assertEqual(node[0], "sum")
            self.assertEqual(node[4][3], f"a{number}")
            node = node[3]
        self.assertEqual(node, ("name", 2, 1, "a0"))

    def test_brackets(self):
        node = self.value_of("[" * 12 + "]" * 12)
        for column in range(1, 12):
            self.assertEqual(node[:3], ("list", 2, column))
            node, = node[3]
        self.assertEqual(node, ("list", 2, 12, ()))
        self.assertEqual(self.bad_place("set x =\n" + "[" * 13 + "]" * 13 + ";"), (2, 13))
        self.assertEqual(self.bad_place("set x =\n" + "[" * 30), (2, 13))

    def test_braces(self):
        self.assertEqual(parse("each a in b {" * 12 + "}" * 12)[0][:3], ("each", 1, 1))
        self.assertEqual(self.bad_place("each a in b\n{" * 13 + "}" * 13), (14, 1))

    def test_braces_and_brackets_together(self):
        for braces in range(13):
            opening, closing = "each a in b {\n" * braces, "}" * braces
            line = braces + 1
            brackets = 12 - braces
            parse(opening + "set x = " + "[" * brackets + ("]" * brackets or "a") + ";" + closing)
            self.assertEqual(self.bad_place(opening + "set x = " + "[" * (brackets + 1)), (line, 9 + brackets))
            node = "a"
            for _ in range(brackets):
                node = "[" + node + " each x in y]"
            parse(opening + "set x = " + node + ";" + closing)
            self.assertEqual(self.bad_place(opening + "set x = " + "[" + node), (line, 9 + brackets))

    def test_a_block_behind_brackets(self):
        parse("each x in " + "[" * 12 + "]" * 12 + " {}")
        parse("each a in b {" * 11 + "if [] == [] {} else {}" + "}" * 11)
        self.assertEqual(self.bad_place("each a in b {" * 11 + "\nif [[]] == [] {}"), (2, 5))
        self.assertEqual(self.bad_place("each a in b {" * 11 + "\nif [] == [[]] {}"), (2, 11))
        self.assertEqual(self.bad_place("each a in b {" * 12 + "\nif a == b {}"), (2, 11))
        self.assertEqual(self.bad_place("each a in b {" * 12 + "\nshape f() {}"), (2, 11))
        self.assertEqual(self.bad_place("each a in b {" * 11 + "\nif a == b {} else { if c in d {} }"), (2, 31))

    def test_what_is_closed_counts_no_more(self):
        parse("each a in b { set x = [[], []]; if a == [b] { } else { } }" * 10)
        self.value_of("[" + ", ".join(["[[[]]]"] * 30) + "]")
        self.value_of("[a each x in []] + [b each x in [] when [] in []]")

    def test_round_brackets_do_not_count(self):
        text = "each a in b {" * 12 + "use f(files(\"a\"), flag(\"b\"));" + "}" * 12
        self.assertEqual(parse(text)[0][0], "each")
        self.assertEqual(self.bad_place("each a in b {" * 12 + "\nuse f([]);"), (2, 7))

    def test_tokens(self):
        self.assertEqual(len(parse("set a = b;\n" * 120)), 120)
        self.assertEqual(self.bad_place("set a = b;\n" * 121), (121, 1))
        self.assertEqual(self.bad_place("set a = b;\n" * 120 + "\n  set"), (122, 3))
        self.assertEqual(self.bad_place("set a = b;\n" * 120 + "?"), (121, 1))
        self.assertEqual(len(parse("set a = b;\n" * 120 + "\n  \n")), 120)

    def test_the_token_601_in_a_statement(self):
        # 595 tokens of whole statements; the others follow.
        start = "set a = b;\n" * 119
        self.assertEqual(self.bad_place(start + "set a = [ ] ;"), (120, 13))
        self.assertEqual(self.bad_place(start + "set a = b +"), (120, 12))
        self.assertEqual(self.bad_place(start + "set a = b + "), (120, 13))
        self.assertEqual(self.bad_place(start + "set a = b ]"), (120, 11))
        self.assertEqual(self.bad_place(start + "set a = \"x\" ; set"), (120, 15))

    def test_an_earlier_fault_comes_before_token_601(self):
        self.assertEqual(self.bad_place("set a = b;\n" * 50 + "x " + "set a = b;\n" * 200), (51, 1))
        self.assertEqual(self.bad_place("set a = b;\n" * 300 + "?"), (121, 1))
        self.assertEqual(self.bad_place("use f(" + "a, " * 700), (1, 902))


def random_words(choice, size):
    """Return the words of a random file, whole or cut, that is often nearly right."""
    words = []
    while len(words) < size:
        words += random_statement(choice, 3)
    return words


def random_statement(choice, deep):
    expression = random_expression(choice, deep)
    block = ["{"] + (random_statement(choice, deep - 1) if deep > 0 and choice([0, 1]) else []) + ["}"]
    condition = choice([[], ["not"]]) + expression + [choice(["==", "!=", "in"])] + random_expression(choice, deep)
    return choice([
        ["set", "x", "="] + expression + [";"],
        ["make"] + expression + ["by", "x"] + choice([[], ["with"] + expression])
        + choice([[], ["from"] + expression]) + choice([[], ["needs"] + expression]) + [";"],
        ["if"] + condition + block + choice([[], ["else"] + block]),
        ["each", "x", "in"] + expression + block,
        ["shape", "x", "("] + choice([[], ["x"], ["x", ",", "x"]]) + [")"] + block,
        ["use", "x", "("] + choice([[], expression, expression + [","] + expression]) + [")", ";"],
    ])


def random_expression(choice, deep):
    if deep <= 0:
        return [choice(["x", "\"a\""])]
    inner = random_expression(choice, deep - choice([1, 2]))
    return choice([
        ["x"], ["\"a\""], ["files", "(", "\"a\"", ")"], ["flag", "(", "\"a\"", ")"], ["[", "]"],
        ["["] + inner + ["]"],
        ["["] + inner + [","] + inner + ["]"],
        ["["] + inner + ["each", "x", "in"] + inner + ["]"],
        ["["] + inner + ["each", "x", "in"] + inner + ["when"] + choice([[], ["not"]]) + inner + ["in"] + inner + ["]"],
        inner + ["+"] + inner,
    ])


class GrammarTests(ParserCase):
    """Compares the places of errors with what the grammar itself allows."""

    WORDS = RESERVED + ["{", "}", "[", "]", "(", ")", ",", ";", "=", "==", "!=", "+", "x", "\"a\""]

    def check(self, words):
        text = " ".join(words)
        found = tokens(text)
        bad = first_bad([word_of(token) for token in found])
        if bad is None:
            parse(text)
        elif bad < len(found):
            self.assertEqual(self.bad_place(text), found[bad][2:], text)
        else:
            self.assertEqual(self.bad_place(text), (1, len(text) + 1), text)

    def test_whole_files(self):
        choice = random.Random(7).choice
        for _ in range(150):
            words = random_words(choice, 20)
            self.assertIsNone(first_bad([word_of(token) for token in tokens(" ".join(words))]))
            self.check(words)

    def test_files_with_one_wrong_word(self):
        choice = random.Random(8).choice
        for _ in range(600):
            words = random_words(choice, choice([1, 15]))
            at = choice(range(len(words)))
            self.check(choice([
                words[:at], words[:at] + words[at + 1:], words[:at] + [choice(self.WORDS)] + words[at + 1:],
                words[:at] + [choice(self.WORDS)] + words[at:],
            ]))

    def test_each_word_behind_each_beginning(self):
        choice = random.Random(9).choice
        for _ in range(25):
            words = random_words(choice, 1)[:40]
            for at in range(len(words)):
                for word in self.WORDS:
                    self.check(words[:at] + [word])


if __name__ == "__main__":
    unittest.main()
