"""Points 55 to 57: records of what was made, their problems, and what comes of them if they are replayed."""

import unittest

from truemill.cache import Cache
from truemill.errors import GraphProblem, Missing
from truemill.floor import Floor
from truemill.graph import build_order, closure, make_graph
from truemill.keys import claim_text, key_text
from truemill.mill import Mill
from truemill.records import check_record, record_of, replay_record
from truemill.roster import Roster, words_of
from truemill.store import Store

from calls import few_calls
from crew import true_claim


def target(label, sources=(), needs=(), tool="join", args=()):
    return (label, tool, args, sources, needs)


def made(text):
    return "made\n" + text


# `top` needs `left` and `right`, which need `base`; `bad` fails, and `none` needs nothing.
PARTS = [target("top", ("t",), ("right", "left")), target("left", ("b", "a"), ("base",)), target("right", (), ("base",), "upper"),
         target("base", ("c", "c"), (), "sort"), target("bad", ("c",), (), "none"), target("none", args=("",))]
TEXTS = {"a": "one\n", "b": "two\n", "c": "y\nx\n", "t": "T", "u": "unread"}
SHAPE = (("shape", None),)


class RecordCase(unittest.TestCase):
    def start(self, need=2, parts=PARTS, texts=TEXTS):
        self.store = Store(200)
        self.roster = Roster(need)
        self.cache = Cache(9)
        self.mill = Mill(self.store, self.roster, Floor(self.roster, 5), self.cache)
        for house in "abcde":
            self.roster.add(house)
        self.mill.sources(make_graph(parts), self.store.put_tree(sorted(texts.items())))

    def vouchers(self, key, claim, houses="abc"):
        words = words_of(key_text(key), claim)
        return tuple([(house, self.roster.sign(house, words)) for house in houses])

    def make(self, *labels):
        """Let honest houses make targets."""
        for label in labels:
            self.mill.want(label)
        while self.mill.wanted():
            self.mill.turn(0, [])
            for key in self.mill.asked():
                claim = true_claim(key, {name: self.store.text(name) for name in self.store.names()})
                for house, mark in self.vouchers(key, claim, "abc"[:self.roster.need]):
                    self.roster.tell(key_text(key), house, claim, mark)

    def problem(self, kind, function, *values):
        with self.assertRaises(kind) as caught:
            function(*values)
        return caught.exception

    def check(self, record):
        return check_record(record, self.store, self.roster)

    def changed(self, record, label, key=None, claim=None, vouchers=None):
        """Return a record with another key, claim or other vouchers in a step."""
        labels, graph, sources, steps = record
        rows = []
        for step in steps:
            if step[0] == label:
                step = (label, key or step[1], step[2] if claim is None else claim, step[3] if vouchers is None else vouchers)
            rows.append(step)
        return (labels, graph, sources, tuple(rows))


class RecordTests(RecordCase):
    def test_one_label(self):
        self.start()
        self.make("base")
        graph = (("base", "sort", (), (("source", "c"), ("source", "c"))),)
        key = ("sort", (), (3, 3))
        vouchers = (("a", "a-1"), ("b", "b-2"))
        self.assertEqual(record_of(self.mill, ["base"]),
                         (("base",), graph, (("c", 3),), (("base", key, made("x\nx\ny\ny\n"), vouchers),)))

    def test_several_labels(self):
        self.start()
        self.make("top", "none")
        labels, graph, sources, steps = record_of(self.mill, ["top", "none", "base"])
        self.assertEqual(labels, ("base", "none", "top"))
        self.assertEqual(graph, closure(self.mill.graph(), ["top", "none"]))
        self.assertEqual(sources, (("a", 1), ("b", 2), ("c", 3), ("t", 4)))
        self.assertEqual([step[0] for step in steps], ["base", "left", "none", "right", "top"])
        for label, key, claim, vouchers in steps:
            self.assertEqual(key, self.mill.key_of(label))
            self.assertEqual((claim, vouchers, "floor"), self.mill.evidence(key))
            self.assertEqual(claim, made(self.mill.hand(label)))
        self.assertEqual(tuple([step[0] for step in steps]), build_order(graph))

    def test_labels_that_stand_twice(self):
        self.start()
        self.make("left", "right")
        record = record_of(self.mill, ["left", "right"])
        self.assertEqual(record[0], ("left", "right"))
        for labels in (["right", "left"], ["right", "left", "right"], ["left", "right", "left", "left"]):
            self.assertEqual(record_of(self.mill, labels), record)

    def test_only_the_sources_that_are_read(self):
        self.start()
        self.make("right")
        self.assertEqual(record_of(self.mill, ["right"])[2], (("c", 3),))
        self.make("none")
        self.assertEqual(record_of(self.mill, ["none"]),
                         (("none",), (("none", "join", ("",), ()),), (), (("none", ("join", ("",), ()), made(""), (("a", "a-5"), ("b", "b-6"))),)))

    def test_no_label(self):
        self.start()
        self.assertEqual(record_of(self.mill, []), ((), (), (), ()))
        self.assertEqual(self.check(((), (), (), ())), ())
        self.assertEqual(replay_record(((), (), (), ()), self.store), ())

    def test_evidence_of_the_cache(self):
        self.start()
        key, claim = ("sort", (), (3, 3)), made("x\nx\ny\ny\n")
        vouchers = self.vouchers(key, claim, "dac")
        self.roster.revoke("a")
        self.cache.put(key_text(key), claim, vouchers)
        self.make("base")
        record = record_of(self.mill, ["base"])
        self.assertEqual(record[3], (("base", key, claim, (vouchers[0], vouchers[2])),))
        self.assertEqual(self.check(record), ())

    def test_errors(self):
        self.start()
        self.make("left", "bad")
        for labels, label, reason in (
            (["x"], "x", "unknown"), (["left", "x"], "x", "unknown"), (["top"], "top", "not made"), (["bad"], "bad", "not made"),
            (["left", "right", "x"], "right", "not made"), (["x", "right"], "x", "unknown"), (["left", "right", "bad"], "right", "not made"),
            (["bad", "right"], "bad", "not made"), (["base", "y", "x"], "y", "unknown"), (["none"], "none", "not made"),
        ):
            error = self.problem(GraphProblem, record_of, self.mill, labels)
            self.assertEqual((error.label, error.reason), (label, reason), labels)
        self.assertEqual(record_of(self.mill, ["left", "base"])[0], ("base", "left"))

    def test_the_labels_are_not_changed(self):
        self.start()
        self.make("left", "right")
        labels = ["right", "left", "right"]
        record_of(self.mill, labels)
        self.assertEqual(labels, ["right", "left", "right"])

    def test_texts_that_are_lost(self):
        self.start()
        self.make("top")
        record = record_of(self.mill, ["top"])
        for name in self.store.names():
            self.store.lose(name)
        self.assertEqual(record_of(self.mill, ["top"]), record)
        self.assertEqual(self.check(record), ())


class ShapeTests(RecordCase):
    def setUp(self):
        self.start()
        self.make("top", "none")
        self.record = record_of(self.mill, ["left", "top"])
        self.labels, self.graph, self.sources, self.steps = self.record

    def bad(self, labels=None, graph=None, sources=None, steps=None):
        """Check that a record with some other parts has no shape."""
        record = (self.labels if labels is None else labels, self.graph if graph is None else graph,
                  self.sources if sources is None else sources, self.steps if steps is None else steps)
        self.assertEqual(self.check(record), SHAPE)

    def test_a_good_record(self):
        self.assertEqual(self.check(self.record), ())
        self.assertEqual(self.check((("top",), *self.record[1:])), ())
        self.assertEqual(self.check((("base", "left", "right", "top"), *self.record[1:])), ())

    def test_labels(self):
        for labels in (("top", "left"), ("left", "left", "top"), ("left", "top", "top"), ("left", "top", "x"), ("top", "x"), ("x",),
                       ("none", "top"), (), ("left",), ("left", "right")):
            self.bad(labels=labels)

    def test_a_graph_that_does_not_ascend(self):
        self.bad(graph=self.graph[::-1])
        self.bad(graph=(self.graph[1], self.graph[0], *self.graph[2:]))

    def test_a_label_twice(self):
        self.bad(graph=(self.graph[0], *self.graph))
        other = ("base", "upper", (), (("source", "c"),))
        self.bad(graph=(self.graph[0], other, *self.graph[1:]))
        self.bad(graph=(self.graph[0], *self.graph), steps=(self.steps[0], *self.steps))

    def test_needs_ahead_of_sources(self):
        rows = list(self.graph)
        label, tool, args, inputs = rows[1]
        for turned in (inputs[::-1], (inputs[0], inputs[2], inputs[1])):
            rows[1] = (label, tool, args, turned)
            self.bad(graph=tuple(rows))

    def test_an_unknown_need(self):
        rows = list(self.graph)
        label, tool, args, inputs = rows[0]
        rows[0] = (label, tool, args, (*inputs, ("target", "x")))
        self.bad(graph=tuple(rows))
        self.bad(graph=tuple(rows), steps=())
        self.bad(graph=self.graph[1:], sources=self.sources[:2] + self.sources[3:], steps=self.steps[1:])

    def test_a_cycle(self):
        graph = (("p", "join", (), (("target", "q"),)), ("q", "join", (), (("target", "p"),)))
        self.bad(("p",), graph, (), ())
        self.bad(("p",), graph, (), tuple([(label, ("join", (), (1,)), made("x"), ()) for label in "pq"]))
        graph = (("p", "join", (), (("target", "p"),)),)
        self.bad(("p",), graph, (), ())

    def test_more_than_60_actions(self):
        for many in (60, 61):
            labels = tuple([f"t{number:02}" for number in range(many)])
            graph = tuple([(label, "join", ("",), ()) for label in labels])
            step = (("join", ("",), ()), made(""), self.mill.evidence(("join", ("",), ()))[1])
            record = (labels, graph, (), tuple([(label, *step) for label in labels]))
            self.assertEqual(self.check(record), () if many == 60 else SHAPE)

    def test_a_graph_that_is_not_the_closure(self):
        none = ("none", "join", ("",), ())
        self.bad(graph=(*self.graph[:2], none, *self.graph[2:]))
        step = ("none", ("join", ("",), ()), made(""), self.mill.evidence(("join", ("",), ()))[1])
        self.bad(graph=(*self.graph[:2], none, *self.graph[2:]), steps=(*self.steps[:2], step, *self.steps[2:]))
        self.assertEqual(self.check((("left", "none", "top"), (*self.graph[:2], none, *self.graph[2:]), self.sources,
                                     (*self.steps[:2], step, *self.steps[2:]))), ())

    def test_sources(self):
        a, b, c, t = self.sources
        for sources in ((a, b, c), (b, c, t), (), (a, b, c, t, ("u", 5)), (a, b, ("b1", 1), c, t), (b, a, c, t), (a, b, c, c, t),
                        (a, a, b, c, t), (a, b, c, ("t2", 4))):
            self.bad(sources=sources)

    def test_steps(self):
        base, left, right, top = self.steps
        for steps in ((), (base, left, right), (left, right, top), (base, right, left, top), (base, left, right, top, top),
                      (base, base, left, right, top), (base, left, right, ("none", *top[1:])), (top, base, left, right)):
            self.bad(steps=steps)

    def test_nothing_else_is_checked(self):
        record = self.changed(self.record, "base", claim="none", vouchers=())
        self.assertEqual(self.check((("top", "left"), *record[1:])), SHAPE)

    def test_deep_graphs(self):
        self.start(parts=[target(f"t{number:02}", ("a",), (f"t{number + 1:02}",) if number < 59 else (), "count") for number in range(60)])
        self.make("t00")
        with few_calls(60):
            record = record_of(self.mill, ["t00"])
            self.assertEqual(len(record[3]), 60)
            self.assertEqual(self.check(record), ())
            self.assertTrue(all([same for _, _, same in replay_record(record, self.store)]))


class StepTests(RecordCase):
    def setUp(self):
        self.start()
        self.make("top")
        self.record = record_of(self.mill, ["top"])
        self.steps = {step[0]: step for step in self.record[3]}

    def with_step(self, label, key, claim, houses="abc"):
        """Return the record with a step whose vouchers fit its key and its claim."""
        return self.changed(self.record, label, key, claim, self.vouchers(key, claim, houses))

    def test_keys(self):
        _, key, claim, _ = self.steps["left"]
        tool, args, names = key
        for other in (("sort", args, names), (tool, ("",), names), (tool, args, names[::-1]), (tool, args, names[:2]), (tool, args, ()),
                      (tool, args, (*names, 1)), (tool, args, (names[0], names[1], 99))):
            self.assertEqual(self.check(self.with_step("left", other, claim)), (("key", "left"),))
        self.assertEqual(self.check(self.with_step("left", key, claim)), ())

    def test_names_of_the_sources(self):
        labels, graph, sources, steps = self.record
        self.assertEqual(self.check((labels, graph, (("a", 9), *sources[1:]), steps)), (("key", "left"),))
        self.assertEqual(self.check((labels, graph, (*sources[:2], ("c", 1), ("t", 1)), steps)), (("key", "base"), ("key", "top")))

    def test_another_graph(self):
        labels, graph, sources, steps = self.record
        rows = list(graph)
        rows[1] = ("left", "join", (",",), rows[1][3])
        self.assertEqual(self.check((labels, tuple(rows), sources, steps)), (("key", "left"),))
        rows[1] = ("left", "upper", (), rows[1][3])
        self.assertEqual(self.check((labels, tuple(rows), sources, steps)), (("key", "left"),))

    def test_a_claim_that_is_none_or_no_text(self):
        key = self.steps["top"][1]
        for claim in ("failed\nno", "failed\n", "", "made", "none", "made\n" + "x" * 2001, "failed\n" + "x" * 81, "failed\na\nb"):
            self.assertEqual(self.check(self.with_step("top", key, claim)), (("claim", "top"),), claim)

    def test_users_of_a_claim_that_is_no_text(self):
        for claim in ("failed\nno", "none", ""):
            record = self.with_step("base", self.steps["base"][1], claim)
            self.assertEqual(self.check(record), (("claim", "base"), ("key", "left"), ("key", "right")))
            record = self.with_step("left", self.steps["left"][1], claim)
            self.assertEqual(self.check(record), (("claim", "left"), ("key", "top")))

    def test_users_of_a_text_without_a_name(self):
        record = self.with_step("base", self.steps["base"][1], made("never put"))
        self.assertEqual(self.check(record), (("key", "left"), ("key", "right")))
        # With a name it is another one than in the keys.
        name = self.store.put("never put")
        self.assertEqual(self.check(record), (("key", "left"), ("key", "right")))
        self.store.lose(name)
        tool, args, names = self.steps["right"][1]
        right = (tool, args, (name,))
        record = self.changed(record, "right", right, vouchers=self.vouchers(right, self.steps["right"][2]))
        self.assertEqual(self.check(record), (("key", "left"),))

    def test_a_text_without_a_name_that_nothing_uses(self):
        self.assertEqual(self.check(self.with_step("top", self.steps["top"][1], made("never put"))), ())

    def test_vouchers(self):
        _, key, claim, vouchers = self.steps["right"]
        strange = Roster(1)
        for house in "abc":
            strange.add(house)
        for _ in range(40):
            mark = strange.sign("c", words_of(key_text(key), claim))
        a, b = self.vouchers(key, claim, "ab")
        for bad in ((), (a,), (a, a), (a, *self.vouchers(key, claim, "a")), (a, ("b", a[1])), (a, ("c", mark)), (a, ("b", "")),
                    (a, *self.vouchers(key, made("x"), "b")), (a, *self.vouchers(self.steps["left"][1], claim, "b")), (a, ("x", "x-1"))):
            self.assertEqual(self.check(self.changed(self.record, "right", vouchers=bad)), (("vouchers", "right"),), bad)
        for good in ((a, b), (b, a), (a, a, b), (("x", "y"), a, ("b", ""), b), self.vouchers(key, claim, "de"), (a, *vouchers)):
            self.assertEqual(self.check(self.changed(self.record, "right", vouchers=good)), (), good)

    def test_need_and_one_less(self):
        for need in (1, 2, 3):
            self.start(need=need)
            self.make("base")
            record = record_of(self.mill, ["base"])
            _, key, claim, _ = record[3][0]
            for size in range(5):
                vouchers = self.vouchers(key, claim, "edcba"[:size])
                self.assertEqual(self.check(self.changed(record, "base", vouchers=vouchers)),
                                 () if size >= need else (("vouchers", "base"),))

    def test_a_house_that_is_revoked(self):
        self.assertEqual(self.check(self.record), ())
        self.roster.revoke("a")
        self.assertEqual(self.check(self.record), tuple([("vouchers", label) for label in ("base", "left", "right", "top")]))
        _, key, claim, vouchers = self.steps["left"]
        record = self.changed(self.record, "left", vouchers=vouchers + self.vouchers(key, claim, "e"))
        self.assertEqual(self.check(record), tuple([("vouchers", label) for label in ("base", "right", "top")]))

    def test_another_roster(self):
        self.assertEqual(check_record(self.record, self.store, Roster(1)),
                         tuple([("vouchers", label) for label in ("base", "left", "right", "top")]))

    def test_another_store(self):
        self.assertEqual(check_record(self.record, Store(5), self.roster), (("key", "left"), ("key", "right"), ("key", "top")))

    def test_a_key_with_vouchers_of_the_right_key(self):
        _, key, claim, vouchers = self.steps["top"]
        self.assertEqual(self.check(self.changed(self.record, "top", ("join", (), ()))), (("key", "top"), ("vouchers", "top")))

    def test_a_claim_with_vouchers_of_the_right_claim(self):
        self.assertEqual(self.check(self.changed(self.record, "top", claim="none")), (("claim", "top"), ("vouchers", "top")))
        self.assertEqual(self.check(self.changed(self.record, "top", claim=made("lie"))), (("vouchers", "top"),))

    def test_all_three_in_one_step(self):
        record = self.changed(self.record, "top", ("join", (), ()), "none")
        self.assertEqual(self.check(record), (("key", "top"), ("claim", "top"), ("vouchers", "top")))
        record = self.changed(record, "base", ("join", (), ()), "failed\nno")
        self.assertEqual(self.check(record), (("key", "base"), ("claim", "base"), ("vouchers", "base"), ("key", "left"), ("key", "right"),
                                              ("key", "top"), ("claim", "top"), ("vouchers", "top")))

    def test_nothing_is_changed(self):
        names, record = self.store.names(), self.record
        self.check(self.changed(self.record, "top", claim=made("never put")))
        self.assertIsNone(self.store.name_of("never put"))
        self.assertEqual((self.store.names(), record_of(self.mill, ["top"])), (names, record))


class ReplayTests(RecordCase):
    def setUp(self):
        self.start()
        self.make("top")
        self.record = record_of(self.mill, ["top"])

    def replay(self, record):
        return replay_record(record, self.store)

    def test_the_same(self):
        self.assertEqual(self.replay(self.record), (
            ("base", made("x\nx\ny\ny\n"), True), ("left", made("two\none\nx\nx\ny\ny\n"), True), ("right", made("X\nX\nY\nY\n"), True),
            ("top", made("TX\nX\nY\nY\ntwo\none\nx\nx\ny\ny\n"), True)))

    def test_not_the_same(self):
        record = self.changed(self.record, "base", claim=made("lie"))
        rows = self.replay(record)
        self.assertEqual(rows[0], ("base", made("x\nx\ny\ny\n"), False))
        # What rests on it is made of the texts on the way, whatever the steps claim.
        self.assertEqual(rows[1:], self.replay(self.record)[1:])
        record = self.changed(self.record, "top", claim="failed\nno")
        self.assertEqual([same for _, _, same in self.replay(record)], [True, True, True, False])

    def test_keys_and_vouchers_do_not_count(self):
        record = self.changed(self.record, "left", key=("upper", (), (1,)), vouchers=(("x", "y"),))
        self.assertEqual(self.replay(record), self.replay(self.record))

    def test_a_source_whose_text_is_gone(self):
        # The first one in the order of the steps and their inputs: c for `base`, then b and a for `left`, then t.
        for lost, first in (((1, 2, 3, 4), 3), ((1, 2, 4), 2), ((1, 4), 1), ((4,), 4), ((2, 3), 3)):
            self.start()
            self.make("top")
            record = record_of(self.mill, ["top"])
            for name in lost:
                self.store.lose(name)
            self.assertEqual(self.problem(Missing, replay_record, record, self.store).name, first)
            for name in lost:
                self.store.put(TEXTS[{1: "a", 2: "b", 3: "c", 4: "t"}[name]])
            self.assertEqual([same for _, _, same in replay_record(record, self.store)], [True] * 4)

    def test_made_texts_need_not_be_here(self):
        for name in self.store.names():
            if name > 5:
                self.store.lose(name)
        self.assertEqual([same for _, _, same in self.replay(self.record)], [True] * 4)
        self.store.lose(5)
        self.assertEqual([same for _, _, same in self.replay(self.record)], [True] * 4)

    def test_another_store(self):
        other = Store(9)
        self.assertEqual(self.problem(Missing, replay_record, self.record, other).name, 3)
        # The same names stand for other texts there.
        for text in ("1", "2", "3", "4"):
            other.put(text)
        self.assertEqual([row[1] for row in replay_record(self.record, other)],
                         [made("3\n3\n"), made("213\n3\n"), made("3\n3\n"), made("43\n3\n213\n3\n")])
        self.assertEqual(other.names(), (1, 2, 3, 4))

    def test_a_failed_need(self):
        graph = make_graph([target("a", ("x",), (), "none"), target("b", (), ("a",)), target("c", ("x",), ("d", "b")), target("d", ("x",))])
        name = self.store.put("x")
        steps = tuple([(label, ("join", (), ()), claim, ()) for label, claim in (
            ("a", "failed\nno such tool"), ("b", made("")), ("d", made("x")), ("c", "failed\nneeds b"))])
        self.assertEqual(self.replay((("c",), graph, (("x", name),), steps)), (
            ("a", "failed\nno such tool", True), ("b", "failed\nneeds a", False), ("d", made("x"), True), ("c", "failed\nneeds b", True)))

    def test_a_failed_need_with_a_long_label(self):
        label = "//" + "/".join(["a" * 20] * 5) + ":" + "b" * 20
        graph = make_graph([target(label, (), (), "none"), target("//:z", (), (label,))])
        steps = tuple([(name, ("join", (), ()), "", ()) for name in (label, "//:z")])
        self.assertEqual(self.replay((("//:z",), graph, (), steps)), (
            (label, "failed\nno such tool", False), ("//:z", claim_text(("failed", "needs " + label)), False)))

    def test_a_source_that_is_not_in_the_record(self):
        graph = make_graph([target("a", ("x", "y", "z")), target("b", (), ("a",))])
        name = self.store.put("x")
        steps = tuple([(label, ("join", (), ()), claim, ()) for label, claim in (("a", "failed\nno file y"), ("b", made("")))])
        self.assertEqual(self.replay((("b",), graph, (("x", name),), steps)),
                         (("a", "failed\nno file y", True), ("b", "failed\nneeds a", False)))
        self.assertEqual(self.problem(Missing, replay_record, (("b",), graph, (("x", 99),), steps), self.store).name, 99)

    def test_a_source_that_is_gone_of_a_step_with_a_failed_need(self):
        graph = make_graph([target("a", (), (), "none"), target("b", ("x",), ("a",))])
        steps = tuple([(label, ("join", (), ()), "", ()) for label in "ab"])
        self.assertEqual(self.problem(Missing, replay_record, (("b",), graph, (("x", 99),), steps), self.store).name, 99)

    def test_nothing_is_changed(self):
        before = (self.store.names(), self.mill.status("top"))
        self.replay(self.changed(self.record, "top", claim=made("lie")))
        self.assertEqual((self.store.names(), self.mill.status("top")), before)


if __name__ == "__main__":
    unittest.main()
