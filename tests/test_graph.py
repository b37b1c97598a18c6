"""Points 30 and 31: graphs, their order, and what depends on what."""

import random
import unittest

from calls import few_calls

from truemill.errors import GraphProblem
from truemill.graph import action_of, affected, build_order, closure, make_graph, users


def target(label, *needs, sources=(), tool="join", args=()):
    return (label, tool, args, tuple(sources), tuple(needs))


def graph_from(needs, sources=None):
    """Return the graph of a dict from labels to texts with their needs."""
    sources = sources or {}
    return make_graph([target(label, *needs[label].split(), sources=sources.get(label, "").split()) for label in needs])


# A diamond with a tail, and a part of its own.
DIAMOND = {"a": "b c", "b": "d", "c": "d", "d": "e", "e": "", "x": "y", "y": ""}


class GraphCase(unittest.TestCase):
    def problem(self, targets):
        with self.assertRaises(GraphProblem) as caught:
            make_graph(targets)
        return (caught.exception.label, caught.exception.reason)


class MakeGraphTests(GraphCase):
    def test_no_targets(self):
        self.assertEqual(make_graph([]), ())

    def test_actions(self):
        self.assertEqual(make_graph([("//:up", "upper", (), ("b",), ())]), (("//:up", "upper", (), (("source", "b"),)),))
        self.assertEqual(make_graph([target("//a:b", args=("x", ""), tool="swap")]), (("//a:b", "swap", ("x", ""), ()),))

    def test_sources_come_before_needs(self):
        graph = make_graph([target("//:a", "//:c", "//:b", sources=("z", "y", "z")), target("//:b"), target("//:c")])
        self.assertEqual(graph[0], ("//:a", "join", (), (
            ("source", "z"), ("source", "y"), ("source", "z"), ("target", "//:c"), ("target", "//:b"))))

    def test_a_source_and_a_need_of_one_text(self):
        graph = make_graph([target("a", "b", sources=("b",)), target("b")])
        self.assertEqual(graph[0][3], (("source", "b"), ("target", "b")))

    def test_targets_in_any_order(self):
        labels = ["//:b", "//:a", "//a/b:c", "//a:b", "//a-b:a", "//:ab", "//b:a"]
        ascending = ["//:a", "//:ab", "//:b", "//a-b:a", "//a/b:c", "//a:b", "//b:a"]
        choice = random.Random(1)
        for _ in range(10):
            choice.shuffle(labels)
            self.assertEqual([action[0] for action in make_graph([target(label) for label in labels])], ascending)

    def test_a_need_that_stands_twice(self):
        graph = make_graph([target("a", "b", "b"), target("b")])
        self.assertEqual(graph[0][3], (("target", "b"), ("target", "b")))
        self.assertEqual(build_order(graph), ("b", "a"))

    def test_the_list_stays_as_it_was(self):
        targets = [target("b", "a"), target("a")]
        make_graph(targets)
        self.assertEqual(targets, [target("b", "a"), target("a")])

    def test_everything_is_a_tuple(self):
        graph = make_graph([target("b", "a", sources=("c",)), target("a")])
        self.assertEqual([type(part) for part in (graph, graph[0], graph[1][3], graph[1][3][0])], [tuple] * 4)


class ProblemTests(GraphCase):
    def test_duplicates(self):
        self.assertEqual(self.problem([target("a"), target("a")]), ("a", "duplicate"))
        self.assertEqual(self.problem([target("a"), target("b", tool="up"), target("b")]), ("b", "duplicate"))
        self.assertEqual(self.problem([target(label) for label in "cxbycab"]), ("b", "duplicate"))
        self.assertEqual(self.problem([target(label) for label in "ccc"]), ("c", "duplicate"))

    def test_unknown_needs(self):
        self.assertEqual(self.problem([target("a", "x")]), ("a", "unknown"))
        self.assertEqual(self.problem([target("c", "x"), target("b", "a", "y"), target("a")]), ("b", "unknown"))
        self.assertEqual(self.problem([target("z", "a"), target("y", "z")]), ("z", "unknown"))
        self.assertEqual(self.problem([target("b", "a", sources=("a",))]), ("b", "unknown"))

    def test_cycles(self):
        self.assertEqual(self.problem([target("a", "a")]), ("a", "cycle"))
        self.assertEqual(self.problem([target("a"), target("c", "b"), target("b", "c")]), ("b", "cycle"))
        self.assertEqual(self.problem([target("c", "d"), target("d", "e"), target("e", "c"), target("a")]), ("c", "cycle"))
        self.assertEqual(self.problem([target("b", "a"), target("a", "c"), target("c", "b")]), ("a", "cycle"))

    def test_what_leads_into_a_cycle_is_not_in_it(self):
        self.assertEqual(self.problem([target("a", "b"), target("b", "c"), target("c", "d"), target("d", "c")]),
                         ("c", "cycle"))
        self.assertEqual(self.problem([target("a", "z", "b"), target("b"), target("z", "z")]), ("z", "cycle"))

    def test_what_a_cycle_leads_to_is_not_in_it(self):
        self.assertEqual(self.problem([target("a"), target("c", "d", "a", "b"), target("d", "c"), target("b", "a")]),
                         ("c", "cycle"))

    def test_what_stands_between_two_cycles(self):
        between = [target("x", "x", "a"), target("a", "b"), target("b", "y"), target("y", "y")]
        self.assertEqual(self.problem(between), ("x", "cycle"))

    def test_two_cycles(self):
        self.assertEqual(self.problem([target("d", "c"), target("c", "d"), target("b", "e"), target("e", "b")]),
                         ("b", "cycle"))

    def test_how_many(self):
        labels = [f"t{number:02}" for number in range(61)]
        self.assertEqual(len(make_graph([target(label) for label in labels[:60]])), 60)
        self.assertEqual(self.problem([target(label) for label in reversed(labels)]), ("t00", "size"))
        self.assertEqual(self.problem([target(label) for label in labels + ["a", "z"]]), ("a", "size"))

    def test_several_faults(self):
        many = [target(f"z{number:02}") for number in range(61)]
        faults = {
            "duplicate": [target("g"), target("f"), target("g")],
            "unknown": [target("e", "none"), target("d", "a", "none")],
            "cycle": [target("b", "c"), target("c", "b"), target("a", "b")],
        }
        labels = {"duplicate": "g", "unknown": "d", "cycle": "b"}
        self.assertEqual(self.problem(many + faults["cycle"]), ("b", "cycle"))
        self.assertEqual(self.problem(many + faults["cycle"] + faults["unknown"]), ("d", "unknown"))
        for reason, targets in faults.items():
            more = targets + ([target("a")] if reason == "unknown" else [])
            self.assertEqual(self.problem(more), (labels[reason], reason))
            self.assertEqual(self.problem(many + more), (labels[reason], reason))
        self.assertEqual(self.problem(many + faults["unknown"] + faults["duplicate"] + faults["cycle"]), ("g", "duplicate"))
        self.assertEqual(self.problem(faults["unknown"] + faults["cycle"]), ("d", "unknown"))
        self.assertEqual(self.problem([target("a", "a"), target("a", "b")]), ("a", "duplicate"))
        self.assertEqual(self.problem([target("a", "a"), target("b", "c")]), ("b", "unknown"))

    def test_many_targets(self):
        # As many as sixty build files can make; no check may take very long with them, or go deep.
        labels = [f"//d{number // 40:02}:t{number:04}" for number in range(2400)]
        row = [target(label, *labels[at + 1:at + 13]) for at, label in enumerate(labels)]
        with few_calls(60):
            self.assertEqual(self.problem(row), (labels[0], "size"))
            ring = row[:-1] + [target(labels[-1], labels[0])]
            self.assertEqual(self.problem(ring), (labels[0], "cycle"))
            self.assertEqual(self.problem(row[:-1] + [target(labels[-1], labels[-2])]), (labels[-2], "cycle"))

    def test_cycles_in_a_plain_way(self):
        choice = random.Random(31).choice
        found = {}
        for _ in range(1500):
            labels = "abcdefg"[:choice(range(1, 8))]
            needs = {label: "".join([other for other in labels if choice(range(8)) == 0]) for label in labels}
            cyclic = [label for label in labels if label in reach(needs, needs[label])]
            targets = [target(label, *needs[label]) for label in labels]
            found[bool(cyclic)] = found.get(bool(cyclic), 0) + 1
            if cyclic:
                self.assertEqual(self.problem(targets), (min(cyclic), "cycle"))
            else:
                self.assertEqual(len(make_graph(targets)), len(labels))
        self.assertGreater(min(found.values()), 200, found)


def reach(needs, start):
    """Return all labels that can be reached, by steps that add what is one need further."""
    seen = set(start)
    while True:
        more = seen | {need for label in seen for need in needs[label]}
        if more == seen:
            return seen
        seen = more


class ActionTests(GraphCase):
    def test_action_of(self):
        graph = graph_from(DIAMOND)
        for action in graph:
            self.assertEqual(action_of(graph, action[0]), action)
        for label in ("", "f", "aa", "//:a"):
            self.assertIsNone(action_of(graph, label))
        self.assertIsNone(action_of((), "a"))


class OrderTests(GraphCase):
    def test_orders(self):
        self.assertEqual(build_order(()), ())
        self.assertEqual(build_order(graph_from({"a": ""})), ("a",))
        self.assertEqual(build_order(graph_from({"c": "", "a": "", "b": ""})), ("a", "b", "c"))
        self.assertEqual(build_order(graph_from({"a": "b", "b": "c", "c": ""})), ("c", "b", "a"))
        self.assertEqual(build_order(graph_from(DIAMOND)), ("e", "d", "b", "c", "a", "y", "x"))

    def test_the_least_label_that_becomes_possible_later(self):
        self.assertEqual(build_order(graph_from({"a": "z", "b": "", "c": "", "z": ""})), ("b", "c", "z", "a"))
        self.assertEqual(build_order(graph_from({"a": "c", "b": "", "c": "", "d": ""})), ("b", "c", "a", "d"))
        self.assertEqual(build_order(graph_from({"a": "m", "b": "z", "m": "", "n": "a", "z": ""})), ("m", "a", "n", "z", "b"))

    def test_the_order_is_not_that_of_a_walk(self):
        # A walk from the least label through its needs would put z behind y at once.
        self.assertEqual(build_order(graph_from({"a": "y z", "b": "", "y": "", "z": ""})), ("b", "y", "z", "a"))

    def test_sixty_in_a_row(self):
        labels = [f"t{number:02}" for number in range(60)]
        graph = graph_from({label: after for label, after in zip(labels, labels[1:] + [""])})
        self.assertEqual(build_order(graph), tuple(reversed(labels)))

    def test_orders_in_a_plain_way(self):
        choice = random.Random(32).choice
        for _ in range(300):
            labels = random.Random(choice(range(10 ** 6))).sample("abcdefghij", choice(range(11)))
            needs = {label: [other for other in labels[:at] if choice(range(3)) == 0] for at, label in enumerate(labels)}
            order = []
            while len(order) < len(labels):
                order.append(min([label for label in labels if label not in order
                                  and all([need in order for need in needs[label]])]))
            graph = make_graph([target(label, *needs[label]) for label in labels])
            self.assertEqual(build_order(graph), tuple(order))


class DependenceTests(GraphCase):
    def labels(self, graph):
        return "".join([action[0] for action in graph])

    def test_closure(self):
        graph = graph_from(DIAMOND, {"a": "s", "e": "t"})
        for labels, wanted in (("", ""), ("e", "e"), ("d", "de"), ("b", "bde"), ("c", "cde"), ("a", "abcde"), ("x", "xy"),
                               ("yd", "dey"), ("ea", "abcde"), ("bb", "bde"), ("xaxa", "abcdexy"), ("q", ""), ("qeq", "e")):
            found = closure(graph, list(labels))
            self.assertEqual(self.labels(found), wanted)
            self.assertEqual(found, tuple([action for action in graph if action[0] in wanted]))

    def test_a_closure_of_nothing(self):
        self.assertEqual(closure((), ["a"]), ())
        self.assertEqual(closure(graph_from(DIAMOND), []), ())

    def test_users(self):
        graph = graph_from(DIAMOND)
        for labels, wanted in (("", ""), ("a", "a"), ("b", "ab"), ("d", "abcd"), ("e", "abcde"), ("bc", "abc"), ("y", "xy"),
                               ("xe", "abcdex"), ("cc", "ac"), ("q", ""), ("qx", "x"), ("edcba", "abcde")):
            self.assertEqual(users(graph, list(labels)), tuple(wanted))

    def test_sources_are_no_needs(self):
        graph = graph_from({"a": "", "b": "", "c": "b"}, {"a": "b"})
        self.assertEqual(self.labels(closure(graph, ["a"])), "a")
        self.assertEqual(users(graph, ["b"]), ("b", "c"))

    def test_affected(self):
        graph = graph_from(DIAMOND, {"a": "s", "b": "t u", "d": "v", "e": "t", "y": "w s"})
        for paths, wanted in (("", ""), ("s", "axy"), ("t", "abcde"), ("u", "ab"), ("v", "abcd"), ("w", "xy"), ("uw", "abxy"),
                              ("vv", "abcd"), ("q", ""), ("a", ""), ("qu", "ab")):
            self.assertEqual(affected(graph, list(paths)), tuple(wanted))
        self.assertEqual(affected((), ["s"]), ())

    def test_the_lists_stay_as_they_were(self):
        graph = graph_from(DIAMOND, {"b": "a"})
        for function in (closure, users, affected):
            labels = ["b", "a", "b", "q"]
            function(graph, labels)
            self.assertEqual(labels, ["b", "a", "b", "q"])

    def test_dependence_in_a_plain_way(self):
        choice = random.Random(33).choice
        for _ in range(300):
            labels = "abcdefgh"
            needs = {label: "".join([other for other in labels[:at] if choice(range(4)) == 0]) for at, label in enumerate(labels)}
            sources = {label: choice(["p", "q", "r", ""]) for label in labels}
            graph = make_graph([target(label, *needs[label], sources=sources[label]) for label in labels])
            some = [label for label in labels + "xyz" if choice(range(4)) == 0]
            known = [label for label in some if label in labels]
            self.assertEqual(set(self.labels(closure(graph, some))), reach(needs, known))
            above = [label for label in labels if label in known or reach(needs, needs[label]) & set(known)]
            self.assertEqual(users(graph, some), tuple(above))
            readers = [label for label in labels if sources[label] in ("p", "r")]
            self.assertEqual(affected(graph, ["r", "p"]), users(graph, readers))


if __name__ == "__main__":
    unittest.main()
