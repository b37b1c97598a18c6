"""Points 58 to 60: the journal, its deeds, and the example as a whole."""

import random
import unittest

from truemill.cache import Cache
from truemill.clean import clean_build, graph_of
from truemill.errors import (BadText, BadTree, EvalProblem, FloorProblem, GraphProblem, JournalProblem, MillError, Missing,
                             RosterProblem, StoreFull, SyntaxProblem)
from truemill.floor import Floor
from truemill.graph import build_order
from truemill.journal import Journal, replay
from truemill.keys import key_text
from truemill.mill import Mill
from truemill.records import check_record, record_of, replay_record
from truemill.roster import Roster, words_of
from truemill.store import Store

from crew import Crew, Hand

BUILD = 'make "all" by join with [" "] from ["a"] needs [":up"]; make "up" by upper from ["b"];'
ENTRIES = (("build", BUILD), ("a", "one"), ("b", "two"))
GRAPH = (("//:all", "join", (" ",), (("source", "a"), ("target", "//:up"))), ("//:up", "upper", (), (("source", "b"),)))
# The names, as the order of the entries gives them.
UP = ("upper", (), (3,))
NOTHING = {"taken": (), "accepted": (), "offers": (), "done": ()}


def started(need=1, lease=10, capacity=50, size=5):
    """Return a journal with houses, workers and sources."""
    journal = Journal(need, lease, capacity, size)
    for house in "abc":
        journal.act(("add", house))
        journal.act(("hire", house + "1", house, ("join", "upper"), 2))
    journal.act(("sources", ENTRIES, ()))
    return journal


def told(journal, hand, number, topic, claim):
    """Return the packet with a claim, signed by a deed."""
    mark = journal.act(("sign", hand.house, words_of(topic, claim)))
    return hand.link.send(f"told {number} {mark}\n{claim}")


class JournalCase(unittest.TestCase):
    def fails(self, journal, kind, deed, **attributes):
        """Check that a deed raises an error and changes nothing."""
        before = (journal.look(), journal.deeds())
        with self.assertRaises(kind) as caught:
            journal.act(deed)
        self.assertIs(type(caught.exception), kind)
        self.assertEqual(vars(caught.exception), attributes)
        self.assertEqual((journal.look(), journal.deeds()), before)


class DeedTests(JournalCase):
    def test_the_parts(self):
        journal = Journal(2, 3, 4, 5)
        for name, kind in (("store", Store), ("roster", Roster), ("floor", Floor), ("cache", Cache), ("mill", Mill)):
            self.assertIs(type(getattr(journal, name)), kind)
        self.assertEqual(journal.roster.need, 2)
        self.assertEqual(journal.deeds(), ())
        self.assertEqual(journal.look(), (0, (), (), (), (), (), (), (), (), ()))

    def test_each_deed_and_its_value(self):
        journal = Journal(1, 10, 50, 5)
        topic = key_text(UP)
        deeds = (
            (("put", "x"), 1), (("put", "x"), 1), (("put", "y\n"), 2), (("lose", 1), None), (("add", "a"), None), (("add", "b"), None),
            (("sign", "a", "words"), "a-1"), (("sign", "b", "words"), "b-2"), (("revoke", "b"), None),
            (("hire", "w", "a", ("upper",), 1), None), (("lose entry", topic), False), (("spoil", topic, "c"), False),
            (("sources", ENTRIES, ()), (("a", 4), ("b", 5), ("build", 3))), (("want", "//:up"), True), (("want", "//:up"), False),
            (("turn", 0, ()), {**NOTHING, "offers": ((1, "w", "upper\nin 5\n"),)}), (("turn", 50, (("w", "x"),)), {
                "taken": (("odd", None),), "accepted": (), "offers": ((2, "w", "upper\nin 5\n"),), "done": ()}),
        )
        for at, (deed, value) in enumerate(deeds):
            self.assertEqual(journal.act(deed), value, deed)
            self.assertEqual(journal.deeds(), tuple([row[0] for row in deeds[:at + 1]]))

    def test_deeds_act_on_the_parts(self):
        journal = Journal(1, 10, 50, 5)
        for deed in (("put", "x"), ("put", "y"), ("lose", 1), ("add", "a"), ("add", "b"), ("revoke", "b"), ("hire", "w", "a", ("upper",), 1)):
            journal.act(deed)
        mark = journal.act(("sign", "a", "words"))
        self.assertEqual((journal.store.names(), journal.store.text(2)), ((2,), "y"))
        self.assertEqual(journal.roster.houses(), ("a", "b"))
        self.assertEqual([journal.roster.is_revoked(house) for house in "ab"], [False, True])
        self.assertTrue(journal.roster.counts(mark, "a", "words"))
        self.assertEqual(journal.floor.workers(), (("w", 0, 0),))
        journal.cache.put("t", "c", (("a", mark),))
        self.assertIs(journal.act(("spoil", "t", "d")), True)
        self.assertEqual(journal.cache.entry("t"), ("d", (("a", mark),)))
        self.assertIs(journal.act(("lose entry", "t")), True)
        self.assertEqual(journal.cache.topics(), ())

    def test_the_numbers_go_to_their_parts(self):
        journal = started(need=2, lease=7, capacity=5, size=1)
        self.assertEqual(journal.roster.need, 2)
        journal.act(("want", "//:up"))
        self.assertEqual(len(journal.act(("turn", 1, ()))["offers"]), 2)
        self.assertEqual(len(journal.act(("turn", 6, ()))["offers"]), 0)
        self.assertEqual(len(journal.act(("turn", 1, ()))["offers"]), 2)
        for text in ("x", "y"):
            journal.act(("put", text))
        self.fails(journal, StoreFull, ("put", "z"))
        journal.cache.put("t", "c", ())
        self.assertEqual(journal.cache.put("u", "c", ()), "t")

    def test_each_error(self):
        journal = started()
        journal.act(("revoke", "c"))
        for kind, deed, attributes in (
            (BadText, ("put", "x" * 2001), {"reason": "too long"}), (BadText, ("put", "\t"), {"reason": "bad character"}),
            (Missing, ("lose", 9), {"name": 9}), (RosterProblem, ("add", "b"), {"reason": "duplicate"}),
            (RosterProblem, ("sign", "x", "w"), {"reason": "unknown"}), (RosterProblem, ("sign", "c", "w"), {"reason": "revoked"}),
            (RosterProblem, ("revoke", "x"), {"reason": "unknown"}), (RosterProblem, ("revoke", "c"), {"reason": "revoked"}),
            (FloorProblem, ("hire", "a1", "x", (), 1), {"reason": "duplicate"}),
            (FloorProblem, ("hire", "x1", "x", (), 1), {"reason": "unknown house"}),
            (GraphProblem, ("want", "//:x"), {"label": "//:x", "reason": "unknown"}),
            (FloorProblem, ("turn", 5, (("x", "y"),)), {"reason": "unknown worker"}),
        ):
            self.fails(journal, kind, deed, **attributes)

    def test_full_parts(self):
        journal = Journal(1, 1, 1, 1)
        journal.act(("put", "x"))
        self.fails(journal, StoreFull, ("put", "y"))
        for number in range(20):
            journal.act(("add", f"h{number}"))
        self.fails(journal, RosterProblem, ("add", "h20"), reason="full")
        for number in range(20):
            journal.act(("hire", f"w{number}", "h0", (), 1))
        self.fails(journal, FloorProblem, ("hire", "w20", "h0", (), 1), reason="full")


class SourcesTests(JournalCase):
    def sources(self, *entries, flags=(), journal=None):
        journal = journal or Journal(1, 10, 50, 5)
        return journal, journal.act(("sources", entries, flags))

    def test_the_tree_and_the_graph(self):
        journal, tree = self.sources(*ENTRIES)
        self.assertEqual(tree, (("a", 2), ("b", 3), ("build", 1)))
        self.assertEqual(journal.mill.tree(), tree)
        self.assertEqual(journal.mill.graph(), GRAPH)
        self.assertEqual(journal.store.texts_of(tree), dict(ENTRIES))

    def test_nothing(self):
        journal, tree = self.sources()
        self.assertEqual((tree, journal.mill.graph(), journal.look()[1]), ((), (), ()))

    def test_texts_that_are_alike(self):
        _, tree = self.sources(("x", "1"), ("a/y", "2"), ("a/b", "1"))
        self.assertEqual(tree, (("a/b", 1), ("a/y", 2), ("x", 1)))

    def test_flags(self):
        build = ("build", 'make flag("name") by join with [flag("x") + flag("y")];')
        for flags, label, arg in (
            ((("name", "t"),), "//:t", ""), ((("name", "t"), ("x", "1"), ("y", "2")), "//:t", "12"),
            ((("name", "t"), ("name", "u"), ("x", "1"), ("x", "2"), ("x", "3")), "//:u", "3"),
            ((("x", "1"), ("name", "u"), ("x", "")), "//:u", ""),
        ):
            journal, _ = self.sources(build, flags=flags)
            self.assertEqual(journal.mill.graph(), ((label, "join", (arg,), ()),))
        self.fails(Journal(1, 1, 1, 1), EvalProblem, ("sources", (build,), ()), line=1, column=1, reason="name")

    def test_files_and_folders(self):
        journal, _ = self.sources(("d/build", 'each f in files("*") { make f + ".n" by count from [f]; }'), ("d/a", ""), ("d/e/b", ""), ("c", ""))
        self.assertEqual([action[0] for action in journal.mill.graph()], ["//d:a.n", "//d:build.n"])

    def test_each_error(self):
        journal = started(capacity=5)
        for kind, entries, attributes in (
            (BadTree, (("a", "1"), ("b", "2"), ("a", "3")), {"path": "a"}), (BadTree, (("a", "1"), ("a/b", "2")), {"path": "a/b"}),
            (SyntaxProblem, (("build", "set x\n"),), {"line": 2, "column": 1}),
            (EvalProblem, (("build", "\n set y = x;"),), {"line": 2, "column": 10, "reason": "unknown"}),
            (GraphProblem, (("build", 'make "a" by b needs [":c"];'),), {"label": "//:a", "reason": "unknown"}),
            (GraphProblem, (("build", 'make "a" by b needs [":a"];'),), {"label": "//:a", "reason": "cycle"}),
            (BadText, (("a", "\r"),), {"reason": "bad character"}), (BadText, (("a", "x" * 2001), ("b", "\t")), {"reason": "too long"}),
            (StoreFull, (("c", "1"), ("d", "2"), ("e", "3")), {}),
        ):
            self.fails(journal, kind, ("sources", entries, ()), **attributes)
            self.assertEqual(journal.mill.graph(), GRAPH)

    def test_more_than_60_targets(self):
        each = 'each x in [{}] {{ make x by join; }}'
        names = [", ".join([f'"{letter}{at}"' for at in range(many)]) for letter, many in (("a", 30), ("b", 30), ("b", 31))]
        files = [each.format(part) for part in names]
        journal, _ = self.sources(("build", files[0]), ("d/build", files[1]))
        self.assertEqual(len(journal.mill.graph()), 60)
        self.fails(journal, GraphProblem, ("sources", (("build", files[0]), ("d/build", files[2])), ()), label="//:a0", reason="size")

    def test_several_faults_at_once(self):
        journal = started(capacity=5)
        tree, syntax, graph = ("x", "1"), ("build", "set"), ("build", 'make "a" by b needs [":c"];')
        bad, many = ("y", "\t"), [(f"m{number}", str(number)) for number in range(9)]
        for kind, entries in (
            (BadTree, [bad, syntax, *many, tree, tree]), (BadTree, [tree, bad, graph, ("x/y", "2"), *many]),
            (SyntaxProblem, [bad, syntax, *many]), (GraphProblem, [*many, bad, graph]), (BadText, [*many, bad]), (StoreFull, many),
        ):
            before = (journal.look(), journal.deeds())
            with self.assertRaises(kind):
                journal.act(("sources", tuple(entries), ()))
            self.assertEqual((journal.look(), journal.deeds()), before)
            self.assertIsNone(journal.store.name_of("0"))

    def test_wants_that_are_dropped(self):
        journal = started()
        journal.act(("want", "//:up"))
        journal.act(("want", "//:all"))
        journal.act(("sources", (("build", 'make "all" by join;'),), ()))
        self.assertEqual(journal.look()[6], ("//:all",))


class TimeTests(JournalCase):
    def test_the_time_over_several_turns(self):
        journal = started()
        self.assertEqual(journal.look()[0], 0)
        time = 0
        for by in (0, 1, 50, 0, 7):
            journal.act(("turn", by, ()))
            time += by
            self.assertEqual(journal.look()[0], time)
        self.fails(journal, FloorProblem, ("turn", 9, (("x", ""),)), reason="unknown worker")
        journal.act(("turn", 1, ()))
        self.assertEqual(journal.look()[0], 59)

    def test_the_floor_gets_the_new_time(self):
        journal = started(lease=10)
        journal.act(("want", "//:up"))
        self.assertEqual(journal.act(("turn", 3, ()))["offers"], ((1, "a1", key_text(UP)),))
        self.assertEqual(journal.act(("turn", 9, ()))["offers"], ())
        # A turn that raises an error lets no time pass.
        self.fails(journal, FloorProblem, ("turn", 1, (("x", ""),)), reason="unknown worker")
        self.assertEqual(journal.act(("turn", 0, ()))["offers"], ())
        self.assertEqual(journal.act(("turn", 1, ()))["offers"], ((2, "b1", key_text(UP)),))


class FailedTurnTests(JournalCase):
    def test_an_unknown_worker_behind_good_packets(self):
        journal = started()
        journal.act(("want", "//:all"))
        journal.act(("turn", 0, ()))
        hand = Hand("a1", "a")
        for packet in journal.floor.out("a1"):
            hand.hear(packet)
        packet = told(journal, hand, 1, key_text(UP), "made\nTWO")
        out = journal.floor.out("a1")
        self.fails(journal, FloorProblem, ("turn", 30, (("a1", packet), ("a1", "x"), ("x1", packet))), reason="unknown worker")
        self.assertEqual(journal.floor.out("a1"), out)
        self.assertIsNone(journal.roster.claim_of(key_text(UP)))
        turn = journal.act(("turn", 0, (("a1", packet),)))
        self.assertEqual((turn["taken"], turn["accepted"]), ((("new", "settled"),), ((UP, "floor"),)))

    def test_all_later_answers_are_the_same(self):
        left, right = started(), started()
        bad = (("put", "\t"), ("lose", 77), ("add", "a"), ("sign", "x", ""), ("revoke", "x"), ("hire", "a1", "a", (), 1), ("want", "x"),
               ("sources", (("build", "x"), ("z", "new")), ()), ("turn", 5, (("a1", "a1 mill 1 0\nbusy 1"), ("x1", ""))))
        good = (("want", "//:all"), ("turn", 1, ()), ("put", "p"), ("sign", "a", "w"), ("add", "d"), ("lose", 4), ("turn", 9, ()),
                ("revoke", "b"), ("turn", 1, ()), ("hire", "d1", "d", ("upper",), 1), ("turn", 10, ()), ("put", "q"), ("sign", "c", "w"))
        for deed in good:
            for fault in bad:
                self.assertRaises(MillError, left.act, fault)
            self.assertEqual(left.act(deed), right.act(deed))
            self.assertEqual(left.look(), right.look())
            self.assertEqual(left.deeds(), right.deeds())


class LookTests(JournalCase):
    def test_each_part(self):
        journal = started(need=1, size=5)
        journal.act(("put", "x"))
        journal.act(("lose", 2))
        journal.act(("want", "//:all"))
        journal.act(("turn", 4, ()))
        claim = "made\nTWO"
        other = journal.act(("sign", "b", words_of("t", "1")))
        journal.roster.tell("t", "b", "1", other)
        journal.roster.tell("t", "b", "2", journal.act(("sign", "b", words_of("t", "2"))))
        self.assertEqual(journal.look(), (
            4, (1, 3, 4), (("a", 0), ("b", 1), ("c", 0)), (("a1", 1, 0), ("b1", 0, 0), ("c1", 0, 0)), (key_text(UP),), (),
            ("//:all",), (UP,), (), (("//:all", ("waiting", None)), ("//:up", ("ready", UP)))))
        hand = Hand("a1", "a")
        for packet in journal.floor.out("a1"):
            hand.hear(packet)
        journal.act(("turn", 1, (("a1", told(journal, hand, 1, key_text(UP), claim)),)))
        everything = ("join", (" ",), (2, 5))
        self.assertEqual(journal.look(), (
            5, (1, 3, 4, 5), (("a", 0), ("b", 1), ("c", 0)), (("a1", 1, 0), ("b1", 0, 0), ("c1", 0, 0)), (key_text(everything),),
            (key_text(UP),), ("//:all",), (everything,), (UP,), (("//:all", ("ready", everything)), ("//:up", ("made", 5)))))

    def test_houses_in_the_order_in_which_they_were_added(self):
        journal = Journal(1, 1, 1, 1)
        for house in "cab":
            journal.act(("add", house))
            journal.act(("hire", house + "1", house, (), 1))
        self.assertEqual(journal.look()[2], (("c", 0), ("a", 0), ("b", 0)))
        self.assertEqual(journal.look()[3], (("a1", 0, 0), ("b1", 0, 0), ("c1", 0, 0)))

    def test_a_look_changes_nothing(self):
        journal = started()
        self.assertEqual(journal.look(), journal.look())
        self.assertEqual(len(journal.deeds()), 7)


class ReplayTests(JournalCase):
    DEEDS = (("add", "a"), ("hire", "a1", "a", ("join",), 1), ("put", "x"), ("sources", ENTRIES, ()), ("want", "//:up"), ("turn", 3, ()))

    def test_none(self):
        for deeds in ((), []):
            journal = replay(2, 3, 4, 5, deeds)
            self.assertIs(type(journal), Journal)
            self.assertEqual((journal.look(), journal.deeds()), (Journal(2, 3, 4, 5).look(), ()))
            self.assertEqual(journal.roster.need, 2)

    def test_all(self):
        journal = Journal(1, 10, 50, 5)
        for at, deed in enumerate(self.DEEDS):
            journal.act(deed)
            again = replay(1, 10, 50, 5, journal.deeds())
            self.assertEqual(again.look(), journal.look())
            self.assertEqual(again.deeds(), self.DEEDS[:at + 1])
        self.assertEqual(replay(1, 10, 50, 5, list(self.DEEDS)).look(), journal.look())

    def test_the_numbers(self):
        self.assertEqual(replay(1, 10, 1, 5, self.DEEDS[:3]).look()[1], (1,))
        with self.assertRaises(JournalProblem) as caught:
            replay(1, 10, 1, 5, self.DEEDS)
        self.assertEqual(caught.exception.position, 3)
        # One journal has a lease of 10, the other one of 3.
        for lease, offers in ((10, 0), (3, 1)):
            journal = replay(1, lease, 50, 5, self.DEEDS[:1] + (("hire", "a1", "a", ("upper",), 1),) + self.DEEDS[2:])
            self.assertEqual(len(journal.act(("turn", 3, ()))["offers"]), offers)

    def test_a_bad_deed_at_each_position(self):
        for bad in (("lose", 99), ("add", "a"), ("want", "//:none"), ("turn", 1, (("none", ""),)), ("sources", (("build", "x"),), ())):
            for position in range(1, len(self.DEEDS) + 1):
                deeds = self.DEEDS[:position] + (bad,) + self.DEEDS[position:]
                for given in (deeds, list(deeds), deeds[:position + 1], deeds + (bad,)):
                    with self.assertRaises(JournalProblem) as caught:
                        replay(1, 10, 50, 5, given)
                    self.assertEqual(vars(caught.exception), {"position": position})
        with self.assertRaises(JournalProblem) as caught:
            replay(1, 10, 50, 5, (("lose", 1), ("lose", 1)))
        self.assertEqual(caught.exception.position, 0)

    def test_the_deeds_are_not_changed(self):
        deeds = list(self.DEEDS)
        replay(1, 10, 50, 5, deeds)
        self.assertEqual(tuple(deeds), self.DEEDS)


class WholeTests(JournalCase):
    """Whole builds by deeds alone, with workers that are not all honest."""

    TOOLS = ("join", "upper", "sort", "count")

    def started(self, chance, need):
        ways = ["lie"] * (need - 1) + ["honest"] * need + ["late"]
        chance.shuffle(ways)
        self.numbers = (need, chance.choice((3, 9)), 50, chance.choice((1, 9)))
        journal = Journal(*self.numbers)
        crew = Crew(journal.floor, lambda house, words: journal.act(("sign", house, words)), chance)
        for house, way in zip("abcdef", ways):
            journal.act(("add", house))
            journal.act(("hire", house + "1", house, self.TOOLS, chance.choice((1, 2, 8))))
            crew.add(house + "1", house, way)
        return journal, crew

    def sources(self, chance):
        """Return random entries with build files in two folders."""
        lines = ['make "m" by sort from files("*.t") needs ["//d:n"];', 'make "up" by upper from ["a.t"];',
                 'make "all" by join with [flag("sep")] needs [":up", ":m"];', 'make "bad" by join from ["gone"];', 'make "worse" by count needs [":bad"];']
        texts = {f"{folder}{name}.t": chance.choice(("one\n", "two\n", "b\na\n", "")) for folder in ("", "d/") for name in "abc"}
        texts["build"] = "\n".join(lines)
        texts["d/build"] = 'make "n" by count from files("*");'
        entries = list(texts.items())
        chance.shuffle(entries)
        return tuple(entries)

    def some_deed(self, chance, journal):
        """Do something that may go wrong, or that is bad for the build."""
        deed = chance.choice((
            ("lose", chance.randrange(1, 20)), ("put", chance.choice(("x", "\t", "one\n"))), ("add", chance.choice("abz")),
            ("sign", chance.choice("az"), "w"), ("hire", "a1", "a", (), 1), ("want", chance.choice(("//:all", "//:bad", "//:x"))),
            ("lose entry", chance.choice(journal.cache.topics() or ("t",))), ("spoil", chance.choice(journal.cache.topics() or ("t",)), "made\nlie"),
            ("turn", 3, (("a1", "x"), ("z1", "x"))), ("sources", (("a", "1"), ("a", "2")), ()), ("revoke", "z")))
        try:
            journal.act(deed)
        except MillError:
            return False
        return True

    def check(self, journal, entries, flags):
        """Compare all results with those of a clean build."""
        graph = graph_of(dict(entries), flags)
        expected = clean_build(graph, dict(entries))
        self.assertEqual(journal.mill.graph(), graph)
        for label, status in journal.look()[9]:
            if status[0] == "failed":
                self.assertEqual(status, expected[label])
            elif status[0] == "made" and journal.store.has(status[1]):
                self.assertEqual(("made", journal.mill.hand(label)), expected[label])
        return expected

    def test_whole_builds(self):
        chance = random.Random(58)
        good, bad = 0, 0
        for run in range(12):
            journal, crew = self.started(chance, 1 + run % 3)
            for sep in ("-", "+"):
                entries = self.sources(chance)
                journal.act(("sources", entries, (("sep", "x"), ("sep", sep))))
                crew.learn(journal.store)
                for label in ("//:all", "//:worse", "//d:n"):
                    journal.act(("want", label))
                done = {}
                for _ in range(300):
                    turn = journal.act(("turn", chance.choice((0, 1, 2)), tuple(crew.packets())))
                    crew.learn(journal.store)
                    done.update(turn["done"])
                    expected = self.check(journal, entries, {"sep": sep})
                    if not journal.mill.wanted():
                        break
                    if self.some_deed(chance, journal):
                        good += 1
                    else:
                        bad += 1
                self.assertEqual(journal.mill.wanted(), ())
                self.assertLessEqual({"//:all", "//:worse", "//d:n"}, set(done))
                self.assertEqual(done["//:worse"], ("failed", "needs //:bad"))
                self.assertEqual(crew.texts[done["//:all"][1]], expected["//:all"][1])
                self.check_records(journal, done)
            self.check_twin(journal)
        self.assertGreater(min(good, bad), 50)

    def check_twin(self, journal):
        """Check that a journal which has done the same deeds answers alike from now on."""
        again = replay(*self.numbers, journal.deeds())
        self.assertEqual(again.look(), journal.look())
        for deed in (("want", "//:bad"), ("turn", 5, ()), ("put", "last"), ("sign", "a", "w"), ("turn", 20, (("b1", "b1 mill 0 0\n"),)),
                     ("sources", ENTRIES, ()), ("want", "//:all"), ("turn", 1, ())):
            self.assertEqual(again.act(deed), journal.act(deed))
            self.assertEqual(again.look(), journal.look())
        for worker, _, _ in journal.floor.workers():
            self.assertEqual(again.floor.out(worker), journal.floor.out(worker))

    def check_records(self, journal, done):
        made = [label for label, status in done.items() if status[0] == "made"]
        record = record_of(journal.mill, made)
        self.assertEqual(check_record(record, journal.store, journal.roster), ())
        try:
            rows = replay_record(record, journal.store)
        except Missing:
            return
        self.assertTrue(all([same for _, _, same in rows]))


class ExampleTests(JournalCase):
    """Point 60, by the program as a whole."""

    def test_the_example(self):
        texts = {"build": BUILD, "a": "one", "b": "two"}
        self.assertEqual(graph_of(texts, {}), GRAPH)
        self.assertEqual(build_order(GRAPH), ("//:up", "//:all"))
        self.assertEqual(clean_build(GRAPH, texts), {"//:all": ("made", "one TWO"), "//:up": ("made", "TWO")})

    def test_the_example_by_deeds(self):
        journal = Journal(2, 10, 50, 5)
        # In this order `a` has the name 1 and `b` the name 2.
        self.assertEqual(journal.act(("sources", (("a", "one"), ("b", "two"), ("build", BUILD)), ())), (("a", 1), ("b", 2), ("build", 3)))
        chance = random.Random(60)
        crew = Crew(journal.floor, lambda house, words: journal.act(("sign", house, words)), chance, loss=0)
        for house in ("north", "south"):
            journal.act(("add", house))
            journal.act(("hire", house + "-1", house, ("join", "upper"), 1))
            crew.add(house + "-1", house, "honest")
        self.assertEqual(journal.mill.graph(), GRAPH)
        journal.act(("want", "//:all"))
        turns = []
        while journal.mill.wanted():
            crew.learn(journal.store)
            turns.append(journal.act(("turn", 1, tuple(crew.packets()))))
        up, everything = ("upper", (), (2,)), ("join", (" ",), (1, 4))
        self.assertEqual([turn["offers"] for turn in turns],
                         [((1, "north-1", "upper\nin 2\n"), (2, "south-1", "upper\nin 2\n")),
                          ((3, "north-1", "join\narg  \nin 1\nin 4\n"), (4, "south-1", "join\narg  \nin 1\nin 4\n")), ()])
        self.assertEqual([turn["accepted"] for turn in turns], [(), ((up, "floor"),), ((everything, "floor"),)])
        self.assertEqual([turn["done"] for turn in turns], [(), (), (("//:all", ("made", 5)),)])
        self.assertEqual([journal.mill.key_of(label) for label in ("//:up", "//:all")], [up, everything])
        self.assertEqual([key_text(key) for key in (up, everything)], ["upper\nin 2\n", "join\narg  \nin 1\nin 4\n"])
        self.assertEqual([journal.mill.hand(label) for label in ("//:up", "//:all")], ["TWO", "one TWO"])
        record = record_of(journal.mill, ["//:all"])
        self.assertEqual(check_record(record, journal.store, journal.roster), ())
        self.assertEqual(replay_record(record, journal.store), (("//:up", "made\nTWO", True), ("//:all", "made\none TWO", True)))
        self.assertEqual(replay(2, 10, 50, 5, journal.deeds()).look(), journal.look())


if __name__ == "__main__":
    unittest.main()
