"""Points 50 to 54: the mill, its turns, and that what it makes is what a clean build makes."""

import random
import unittest

from truemill.cache import Cache
from truemill.clean import clean_build
from truemill.errors import FloorProblem, GraphProblem, Missing, StoreFull
from truemill.floor import Floor
from truemill.graph import make_graph
from truemill.keys import claim_text, key_text
from truemill.link import Link
from truemill.mill import Mill
from truemill.roster import Roster, words_of
from truemill.store import Store
from truemill.trees import make_tree

from crew import Crew, Hand


def target(label, sources=(), needs=(), tool="join", args=()):
    return (label, tool, args, sources, needs)


def made(text):
    return "made\n" + text


NOTHING = {"taken": (), "accepted": (), "offers": (), "done": ()}


class MillCase(unittest.TestCase):
    def start(self, need=1, lease=10, capacity=100, size=20, houses="abcd"):
        self.store = Store(capacity)
        self.roster = Roster(need)
        self.floor = Floor(self.roster, lease)
        self.cache = Cache(size)
        self.mill = Mill(self.store, self.roster, self.floor, self.cache)
        for house in houses:
            self.roster.add(house)

    def build(self, targets, want=(), **texts):
        """Give the mill a graph and the tree of some texts, and want some of its targets."""
        self.graph = make_graph(targets)
        self.mill.sources(self.graph, self.store.put_tree(sorted(texts.items())))
        for label in want:
            self.assertIs(self.mill.want(label), True)

    def vouchers(self, key, claim, houses):
        words = words_of(key_text(key), claim)
        return tuple([(house, self.roster.sign(house, words)) for house in houses])

    def settle(self, key, claim, houses=None):
        """Let houses tell the roster a claim about a key, past the floor."""
        vouchers = self.vouchers(key, claim, houses or "abc"[:self.roster.need])
        for house, mark in vouchers:
            told = self.roster.tell(key_text(key), house, claim, mark)
        self.assertEqual(told, "settled")
        return vouchers

    def put_cache(self, key, claim, houses=None):
        """Put a claim into the cache that some houses signed."""
        vouchers = self.vouchers(key, claim, houses or "abc"[:self.roster.need])
        self.cache.put(key_text(key), claim, vouchers)
        return vouchers

    def turn(self, now=0, packets=()):
        return self.mill.turn(now, list(packets))

    def problem(self, kind, function, *values):
        with self.assertRaises(kind) as caught:
            function(*values)
        return caught.exception

    def jobs(self):
        return [topic.split("\n")[0] for topic in self.floor.jobs()]

    def look(self):
        """Return all that the parts tell."""
        return (self.store.names(), [self.roster.strikes(house) for house in self.roster.houses()], self.floor.workers(),
                self.floor.jobs(), [(topic, self.cache.entry(topic)) for topic in self.cache.topics()], self.mill.wanted(),
                self.mill.asked(), [(key, self.mill.evidence(key)) for key in self.mill.accepted_keys()],
                [(action[0], self.mill.status(action[0])) for action in self.mill.graph()], self.mill.tree(),
                [self.floor.out(worker) for worker, _, _ in self.floor.workers()])


class WantTests(MillCase):
    PARTS = [target("a"), target("b", tool="sort"), target("c", tool="upper")]

    def test_a_new_mill(self):
        self.start()
        self.assertEqual((self.mill.graph(), self.mill.tree(), self.mill.wanted(), self.mill.asked()), ((), (), (), ()))
        self.assertEqual(self.mill.accepted_keys(), ())
        self.assertIsNone(self.mill.evidence(("join", (), ())))
        error = self.problem(GraphProblem, self.mill.want, "a")
        self.assertEqual((error.label, error.reason), ("a", "unknown"))
        self.assertEqual(self.turn(), NOTHING)

    def test_sources(self):
        self.start()
        graph, tree = make_graph(self.PARTS), make_tree([("x", 1)])
        self.assertIsNone(self.mill.sources(graph, tree))
        self.assertEqual((self.mill.graph(), self.mill.tree()), (graph, tree))
        self.assertEqual(self.mill.status("a"), ("ready", ("join", (), ())))

    def test_wants_keep_their_order(self):
        self.start()
        self.build(self.PARTS, "cab")
        self.assertEqual(self.mill.wanted(), ("c", "a", "b"))
        self.assertIs(self.mill.want("a"), False)
        self.assertIs(self.mill.want("c"), False)
        self.assertEqual(self.mill.wanted(), ("c", "a", "b"))

    def test_an_unknown_label(self):
        self.start()
        self.build(self.PARTS, "b")
        for label in ("d", "", "aa"):
            error = self.problem(GraphProblem, self.mill.want, label)
            self.assertEqual((error.label, error.reason), (label, "unknown"))
        self.assertEqual(self.mill.wanted(), ("b",))

    def test_a_change_of_the_sources_drops_wants_without_an_action(self):
        self.start()
        self.build(self.PARTS, "cab")
        self.build([target("c"), target("b"), target("d")])
        self.assertEqual(self.mill.wanted(), ("c", "b"))
        self.problem(GraphProblem, self.mill.want, "a")
        self.build(self.PARTS)
        self.assertEqual(self.mill.wanted(), ("c", "b"))
        self.assertIs(self.mill.want("a"), True)
        self.assertEqual(self.mill.wanted(), ("c", "b", "a"))
        self.build([])
        self.assertEqual(self.mill.wanted(), ())

    def test_a_want_does_nothing_before_the_turn(self):
        self.start()
        self.build(self.PARTS, "ab")
        self.assertEqual((self.mill.asked(), self.floor.jobs()), ((), ()))

    def test_a_target_can_be_wanted_again(self):
        self.start()
        self.build(self.PARTS, "a")
        self.settle(("join", (), ()), made(""))
        self.assertEqual(self.turn()["done"], (("a", ("made", 1)),))
        self.assertEqual(self.turn(), NOTHING)
        self.assertIs(self.mill.want("a"), True)
        self.assertEqual(self.turn(), {**NOTHING, "done": (("a", ("made", 1)),)})


class AcceptTests(MillCase):
    KEY = ("join", (), (1,))

    def started(self, **values):
        """Start with a job that is asked and offered."""
        self.start(**values)
        for house in "abcd":
            self.floor.hire(house + "1", house, ("join", "sort"), 8)
        self.build([target("t", ("x",)), target("u", (), ("t",), "sort")], "u", x="one")
        turn = self.turn()
        self.assertEqual(turn["offers"], tuple([(n + 1, "abc"[n] + "1", key_text(self.KEY)) for n in range(self.roster.need)]))
        self.assertEqual(self.mill.asked(), (self.KEY,))

    def test_a_text(self):
        for need in (1, 2, 3):
            self.started(need=need)
            vouchers = self.settle(self.KEY, made("new"))
            self.assertEqual(self.turn()["accepted"], ((self.KEY, "floor"),))
            self.assertEqual(self.mill.status("t"), ("made", 2))
            self.assertEqual(self.store.text(2), "new")
            self.assertEqual(self.mill.evidence(self.KEY), (made("new"), vouchers, "floor"))
            self.assertEqual(self.cache.entry(key_text(self.KEY)), (made("new"), vouchers))
            self.assertEqual(self.mill.asked(), (("sort", (), (2,)),))
            self.assertEqual(self.floor.jobs(), (key_text(("sort", (), (2,))),))

    def test_a_text_that_has_a_name(self):
        self.started()
        self.settle(self.KEY, made("one"))
        self.turn()
        self.assertEqual(self.mill.status("t"), ("made", 1))
        self.assertEqual(self.store.names(), (1,))

    def test_a_failure(self):
        for reason in ("no", "", "x" * 80, " bad "):
            self.started()
            self.settle(self.KEY, "failed\n" + reason)
            turn = self.turn()
            self.assertEqual(turn["accepted"], ((self.KEY, "floor"),))
            self.assertEqual(turn["done"], (("u", ("failed", "needs t")),))
            self.assertEqual(self.mill.status("t"), ("failed", reason))
            self.assertEqual(self.mill.evidence(self.KEY)[0], "failed\n" + reason)
            self.assertEqual(self.store.names(), (1,))
            self.assertEqual(self.cache.topics(), (key_text(self.KEY),))
            self.assertEqual(self.floor.jobs(), ())

    def test_a_claim_that_is_none(self):
        for claim in ("", "made", "made x", "failed", "Made\nx", "failed\n" + "x" * 81, "failed\na\nb", made("x" * 2001), "x\nmade\n"):
            self.started()
            vouchers = self.settle(self.KEY, claim)
            self.assertEqual(self.turn()["accepted"], ((self.KEY, "floor"),))
            self.assertEqual(self.mill.status("t"), ("failed", "bad claim"))
            self.assertEqual(self.mill.evidence(self.KEY), (claim, vouchers, "floor"))
            self.assertEqual(self.cache.entry(key_text(self.KEY)), (claim, vouchers))
            self.assertEqual(self.store.names(), (1,))

    def test_a_claim_that_is_none_from_the_cache(self):
        self.start()
        self.build([target("t", ("x",))], "t", x="one")
        vouchers = self.put_cache(self.KEY, "none")
        self.assertEqual(self.turn()["done"], (("t", ("failed", "bad claim")),))
        self.assertEqual(self.mill.evidence(self.KEY), ("none", vouchers, "cache"))

    def test_the_floor_drops_the_job(self):
        self.started(need=2)
        self.assertEqual(self.floor.workers(), (("a1", 1, 0), ("b1", 1, 0), ("c1", 0, 0), ("d1", 0, 0)))
        self.put_cache(self.KEY, "failed\nno")
        self.assertEqual(self.turn(10), {**NOTHING, "accepted": ((self.KEY, "cache"),), "done": (("u", ("failed", "needs t")),)})
        self.assertEqual(self.floor.jobs(), ())
        self.assertEqual(self.floor.workers(), (("a1", 0, 0), ("b1", 0, 0), ("c1", 0, 0), ("d1", 0, 0)))

    def test_the_floor_drops_the_job_that_others_asked_for(self):
        self.start()
        self.build([target("t", ("x",))], "t", x="one")
        for key in (("upper", (), (1,)), self.KEY):
            self.floor.ask(key_text(key))
        self.put_cache(self.KEY, "failed\nno")
        self.turn()
        self.assertEqual(self.jobs(), ["upper"])

    def test_a_full_store(self):
        self.started(capacity=2)
        self.store.put("filler")
        vouchers = self.settle(self.KEY, made("new"))
        before = self.mill.status("t")
        for now in (1, 2):
            self.assertEqual(self.turn(now), NOTHING)
            self.assertEqual(self.mill.status("t"), before)
            self.assertIsNone(self.mill.evidence(self.KEY))
            self.assertEqual(self.mill.accepted_keys(), ())
            self.assertEqual(self.mill.asked(), (self.KEY,))
            self.assertEqual(self.cache.topics(), ())
            self.assertIsNone(self.store.name_of("new"))
            # The floor has removed the job by itself.
            self.assertEqual(self.floor.jobs(), ())
        self.store.lose(self.store.name_of("filler"))
        self.assertEqual(self.turn(3)["accepted"], ((self.KEY, "floor"),))
        self.assertEqual(self.mill.status("t"), ("made", 3))
        self.assertEqual(self.mill.evidence(self.KEY), (made("new"), vouchers, "floor"))
        self.assertEqual(self.cache.topics(), (key_text(self.KEY),))
        self.assertEqual(self.mill.asked(), (("sort", (), (3,)),))

    def test_a_full_store_and_a_claim_that_needs_no_room(self):
        for claim, state in ((made("one"), ("made", 1)), ("failed\nno", ("failed", "no")), ("none", ("failed", "bad claim"))):
            self.started(capacity=1)
            self.settle(self.KEY, claim)
            self.assertEqual(self.turn()["accepted"], ((self.KEY, "floor"),))
            self.assertEqual(self.mill.status("t"), state)

    def test_a_full_store_and_a_claim_of_the_cache(self):
        self.start(capacity=1)
        self.build([target("t", ("x",))], "t", x="one")
        vouchers = self.put_cache(self.KEY, made("new"))
        for _ in range(2):
            self.assertEqual(self.turn(), NOTHING)
            # It is asked, although the cache has it: nothing was accepted.
            self.assertEqual(self.mill.asked(), (self.KEY,))
            self.assertEqual(self.floor.jobs(), (key_text(self.KEY),))
            self.assertEqual(self.cache.topics(), (key_text(self.KEY),))
        self.store.lose(1)
        self.assertEqual(self.turn(), {**NOTHING, "accepted": ((self.KEY, "cache"),), "done": (("t", ("made", 2)),)})
        self.assertEqual(self.mill.evidence(self.KEY), (made("new"), vouchers, "cache"))
        self.assertEqual((self.mill.asked(), self.floor.jobs()), ((), ()))


class PacketTests(MillCase):
    def started(self, need=1):
        self.start(need=need)
        self.hands = {}
        for worker in ("a1", "b1", "c1"):
            self.floor.hire(worker, worker[0], ("join", "sort"), 8)
            self.hands[worker] = Hand(worker, worker[0])
        self.build([target("t", ("x",)), target("u", ("y",), (), "sort")], "tu", x="one", y="two")

    def hear(self):
        for worker, hand in self.hands.items():
            for packet in self.floor.out(worker):
                hand.hear(packet)

    def test_an_unknown_worker_comes_ahead_of_everything(self):
        self.started()
        self.turn()
        self.hear()
        good = self.hands["a1"].answer_all(self.roster.sign, {1: "one", 2: "two"})
        self.settle(("sort", (), (2,)), made("two\n"), "b")
        before = self.look()
        for worker in ("d1", "mill", "", "a"):
            for packets in ([*good, (worker, "x")], [(worker, "d1 mill 0 0\n"), *good], [(worker, good[0][1])]):
                error = self.problem(FloorProblem, self.mill.turn, 20, packets)
                self.assertEqual(error.reason, "unknown worker")
                self.assertEqual(self.look(), before)
        turn = self.turn(20, good)
        self.assertEqual(turn["taken"], (("new", "settled"), ("new", "alike")))
        self.assertEqual([key for key, _ in turn["accepted"]], [("join", (), (1,)), ("sort", (), (2,))])

    def test_packets_of_several_workers(self):
        self.started(need=2)
        self.assertEqual([row[:2] for row in self.turn()["offers"]], [(1, "a1"), (2, "b1"), (3, "a1"), (4, "b1")])
        self.hear()
        packets = []
        for worker in ("a1", "b1"):
            packets += self.hands[worker].answer_all(self.roster.sign, {1: "one", 2: "two"})
        first, second, third, fourth = packets
        turn = self.turn(0, [second, third, first, second, ("c1", "nothing"), ("c1", "c1 mill 0 0\n"), third, fourth])
        self.assertEqual(turn["taken"], (("early", None), ("new", "told"), ("new", "settled"), ("new", "told"), ("odd", None),
                                         ("bare", None), ("old", None), ("new", "settled")))
        self.assertEqual(turn["accepted"], ((("join", (), (1,)), "floor"), (("sort", (), (2,)), "floor")))
        self.assertEqual(turn["done"], (("t", ("made", 1)), ("u", ("made", 3))))
        self.assertEqual(self.mill.evidence(("join", (), (1,)))[1], (("b", "b-3"), ("a", "a-1")))

    def test_an_answer_that_says_busy(self):
        self.started()
        self.turn()
        self.hear()
        hand = self.hands["a1"]
        turn = self.turn(0, [("a1", hand.busy(1))])
        self.assertEqual(turn, {**NOTHING, "taken": (("new", "busy"),), "offers": ((3, "b1", key_text(("join", (), (1,)))),)})

    def test_the_packets_may_be_a_tuple(self):
        self.started()
        self.assertEqual(self.mill.turn(0, (("a1", "x"), ("b1", "y")))["taken"], (("odd", None), ("odd", None)))


class AskedTests(MillCase):
    """Step 2, and what becomes of asked keys in step 4."""

    J, S, U = ("join", (), (1,)), ("sort", (), (1,)), ("upper", (), (1,))
    PARTS = [target("j", ("x",)), target("s", ("x",), (), "sort"), target("u", ("x",), (), "upper")]

    def started(self, want="jsu", **values):
        self.start(**values)
        self.build(self.PARTS, want, x="one")
        self.turn()

    def test_keys_are_asked_in_the_order_of_the_orders(self):
        self.started("us")
        self.assertEqual(self.mill.asked(), (self.S, self.U))
        self.assertEqual(self.jobs(), ["sort", "upper"])
        self.mill.want("j")
        self.turn()
        self.assertEqual(self.mill.asked(), (self.S, self.U, self.J))
        self.assertEqual(self.jobs(), ["sort", "upper", "join"])
        self.turn()
        self.assertEqual(self.mill.asked(), (self.S, self.U, self.J))

    def test_asked_keys_are_accepted_in_the_order_in_which_they_were_asked(self):
        self.started("u")
        self.mill.want("j")
        self.turn()
        self.mill.want("s")
        self.turn()
        for key in (self.S, self.J, self.U):
            self.settle(key, made(key[0]))
        turn = self.turn()
        self.assertEqual(turn["accepted"], ((self.U, "floor"), (self.J, "floor"), (self.S, "floor")))
        self.assertEqual(self.mill.accepted_keys(), (self.U, self.J, self.S))
        self.assertEqual(self.cache.topics(), tuple([key_text(key) for key in (self.U, self.J, self.S)]))
        self.assertEqual(self.store.names(), (1, 2, 3, 4))
        self.assertEqual([self.mill.status(label) for label in "ujs"], [("made", 2), ("made", 3), ("made", 4)])
        self.assertEqual(turn["done"], (("u", ("made", 2)), ("j", ("made", 3)), ("s", ("made", 4))))

    def test_some_are_settled(self):
        self.started()
        self.settle(self.S, made("s"))
        self.assertEqual(self.turn()["accepted"], ((self.S, "floor"),))
        self.assertEqual(self.mill.asked(), (self.J, self.U))
        self.assertEqual(self.jobs(), ["join", "upper"])

    def test_an_asked_key_that_the_cache_has_too(self):
        self.started("j")
        vouchers = self.settle(self.J, made("new"), "a")
        self.put_cache(self.J, made("newer"), "b")
        self.assertEqual(self.turn()["accepted"], ((self.J, "floor"),))
        self.assertEqual(self.mill.evidence(self.J), (made("new"), vouchers, "floor"))
        # What is accepted from the floor is the newest entry.
        self.assertEqual(self.cache.entry(key_text(self.J)), (made("new"), vouchers))

    def test_an_asked_key_that_comes_into_the_cache(self):
        self.started("js")
        self.put_cache(self.J, made("new"))
        self.assertEqual(self.turn()["accepted"], ((self.J, "cache"),))
        self.assertEqual(self.mill.asked(), (self.S,))
        self.assertEqual(self.jobs(), ["sort"])

    def test_a_key_whose_target_is_gone_is_accepted_once_more(self):
        self.started("js")
        self.settle(self.J, made("new"))
        self.build([target("other", ("x",), (), "sort")], ["other"], x="one")
        self.assertEqual(self.mill.wanted(), ("other",))
        self.assertEqual(self.turn()["accepted"], ((self.J, "floor"),))
        self.assertEqual(self.mill.asked(), (self.S,))
        self.build(self.PARTS, x="one")
        self.assertEqual(self.mill.status("j"), ("made", 2))

    def test_vouchers_of_the_roster(self):
        self.start(need=2)
        self.build(self.PARTS, "j", x="one")
        self.turn()
        for house, claim in (("d", made("lie")), ("c", made("new")), ("a", made("new")), ("b", made("new"))):
            vouchers = self.vouchers(self.J, claim, house)
            self.roster.tell(key_text(self.J), house, claim, vouchers[0][1])
        self.roster.revoke("c")
        self.turn()
        self.assertEqual(self.mill.evidence(self.J), (made("new"), (("c", "c-2"), ("a", "a-3"), ("b", "b-4")), "floor"))
        self.assertEqual(self.cache.entry(key_text(self.J)), (made("new"), (("c", "c-2"), ("a", "a-3"), ("b", "b-4"))))

    def test_evidence_stays_as_it_was(self):
        self.started("j", need=1)
        self.settle(self.J, made("new"), "a")
        self.turn()
        for house, mark in self.vouchers(self.J, made("new"), "bc"):
            self.roster.tell(key_text(self.J), house, made("new"), mark)
        self.mill.want("j")
        self.turn()
        self.assertEqual(self.mill.evidence(self.J), (made("new"), (("a", "a-1"),), "floor"))
        self.assertEqual(self.roster.vouchers(key_text(self.J)), (("a", "a-1"), ("b", "b-2"), ("c", "c-3")))

    def test_the_oldest_entry_leaves_the_cache(self):
        self.started(size=2)
        for key in (self.J, self.S, self.U):
            self.settle(key, made(key[0]))
        self.turn()
        self.assertEqual(self.cache.topics(), (key_text(self.S), key_text(self.U)))

    def test_keys_that_are_settled_while_the_store_is_full(self):
        self.started(capacity=2)
        for key in (self.J, self.S, self.U):
            self.settle(key, made(key[0]))
        turn = self.turn()
        self.assertEqual(turn["accepted"], ((self.J, "floor"),))
        self.assertEqual(turn["done"], (("j", ("made", 2)),))
        self.assertEqual(self.mill.asked(), (self.S, self.U))
        self.assertEqual(self.floor.jobs(), ())
        self.assertEqual(self.cache.topics(), (key_text(self.J),))
        self.store.lose(2)
        self.assertEqual(self.turn()["accepted"], ((self.S, "floor"),))
        self.assertEqual(self.mill.asked(), (self.U,))

    def test_keys_that_are_no_longer_among_the_orders(self):
        self.started()
        self.floor.hire("a1", "a", ("join", "sort", "upper"), 8)
        self.assertEqual(len(self.turn(1)["offers"]), 3)
        self.build([target("s", ("x",), (), "sort"), target("k", ("x",), (), "count")], ["k"], x="one")
        self.assertEqual(self.mill.asked(), (self.J, self.S, self.U))
        self.assertEqual(self.turn(2), NOTHING)
        self.assertEqual(self.mill.asked(), (self.S, ("count", (), (1,))))
        self.assertEqual(self.jobs(), ["sort", "count"])
        # The offers of what was dropped are closed, without a lapse.
        self.assertEqual(self.floor.workers(), (("a1", 1, 0),))

    def test_a_change_of_a_source(self):
        self.started("js")
        self.build(self.PARTS, x="two")
        self.turn()
        self.assertEqual(self.mill.asked(), (("join", (), (2,)), ("sort", (), (2,))))
        self.assertEqual(self.floor.jobs(), ("join\nin 2\n", "sort\nin 2\n"))
        self.build(self.PARTS, x="one")
        self.turn()
        self.assertEqual(self.mill.asked(), (self.J, self.S))

    def test_a_topic_that_the_floor_was_asked_for_by_others(self):
        self.start()
        self.build(self.PARTS, "js", x="one")
        self.floor.ask(key_text(self.S))
        self.turn()
        self.assertEqual(self.mill.asked(), (self.J, self.S))
        self.assertEqual(self.jobs(), ["sort", "join"])

    def test_a_key_that_is_settled_while_the_store_is_full_before_it_is_asked(self):
        self.start(capacity=1)
        self.build(self.PARTS, "j", x="one")
        self.settle(self.J, made("new"))
        self.assertEqual(self.turn(), NOTHING)
        self.assertEqual(self.mill.asked(), (self.J,))
        self.assertEqual(self.floor.jobs(), ())


class LostTextTests(MillCase):
    """Step 3."""

    def started(self, want=("c",), capacity=100):
        """Start with a chain of made targets, of which `c` is not wanted any more."""
        self.start(capacity=capacity)
        self.build([target("a", ("x",)), target("b", (), ("a",), "sort"), target("c", (), ("b",), "upper"),
                    target("z", ("x",), (), "count")], "c", x="one")
        for key, text in ((("join", (), (1,)), "A"), (("sort", (), (2,)), "B"), (("upper", (), (3,)), "C")):
            self.settle(key, made(text))
        self.assertEqual(self.turn()["done"], (("c", ("made", 4)),))
        for label in want:
            self.mill.want(label)

    def test_a_text_that_comes_back(self):
        self.started()
        self.store.lose(3)
        self.assertEqual(self.turn()["accepted"], ())
        self.assertEqual(self.store.names(), (1, 2, 3, 4))
        self.assertEqual(self.mill.hand("b"), "B")

    def test_all_of_them(self):
        self.started()
        for name in (1, 2, 3, 4):
            self.store.lose(name)
        self.assertEqual(self.turn(), {**NOTHING, "done": (("c", ("made", 4)),)})
        # The text of the source comes from nowhere.
        self.assertEqual(self.store.names(), (2, 3, 4))
        self.assertEqual([self.mill.hand(label) for label in "abc"], ["A", "B", "C"])

    def test_only_in_the_closure_of_the_wants(self):
        self.started(want="b")
        for name in (2, 3, 4):
            self.store.lose(name)
        self.assertEqual(self.turn()["done"], (("b", ("made", 3)),))
        self.assertEqual(self.store.names(), (1, 2, 3))
        self.store.lose(2)
        self.turn()
        self.assertEqual(self.store.names(), (1, 3))
        self.assertEqual(self.problem(Missing, self.mill.hand, "a").name, 2)

    def test_with_room_for_some(self):
        for room in (0, 1, 2, 3):
            self.started(capacity=4)
            for name in (2, 3, 4):
                self.store.lose(name)
            for number in range(3 - room):
                self.store.put(f"filler {number}")
            turn = self.turn()
            self.assertEqual([name for name in self.store.names() if name < 5], [1, 2, 3, 4][:1 + room])
            self.assertEqual(turn["done"], (("c", ("made", 4)),) if room == 3 else ())
            self.assertEqual(self.mill.wanted(), () if room == 3 else ("c",))

    def test_in_the_order_of_build_order(self):
        self.start(capacity=3)
        self.build([target("m", ("x",), (), "sort"), target("b", (), ("m",)), target("z", ("x",), (), "upper")], "zb", x="one")
        for key, text in ((("sort", (), (1,)), "M"), (("upper", (), (1,)), "Z")):
            self.settle(key, made(text))
        self.assertEqual(self.turn()["done"], (("z", ("made", 3)),))
        self.mill.want("z")
        for name in (2, 3):
            self.store.lose(name)
        self.store.put("filler")
        self.turn()
        self.assertEqual(self.store.names(), (1, 2, 4))

    def test_a_text_that_two_targets_made(self):
        self.start(capacity=2)
        self.build([target("a", ("x",)), target("b", ("x",), (), "sort")], "ab", x="one")
        for key in (("join", (), (1,)), ("sort", (), (1,))):
            self.settle(key, made("same"))
        self.turn()
        self.store.lose(2)
        self.mill.want("b")
        self.assertEqual(self.turn()["done"], (("b", ("made", 2)),))
        self.assertEqual(self.mill.hand("a"), "same")

    def test_a_text_that_was_accepted_from_the_cache(self):
        self.start()
        self.build([target("a", ("x",))], "a", x="one")
        self.put_cache(("join", (), (1,)), made("A"))
        self.turn()
        self.cache.spoil(key_text(("join", (), (1,))), made("worse"))
        self.store.lose(2)
        self.mill.want("a")
        self.assertEqual(self.turn()["done"], (("a", ("made", 2)),))
        self.assertEqual(self.mill.hand("a"), "A")

    def test_it_comes_ahead_of_the_orders(self):
        self.started(want="cz", capacity=4)
        self.store.lose(4)
        self.put_cache(("count", (), (1,)), made("3\n"))
        turn = self.turn()
        self.assertEqual((turn["accepted"], turn["done"]), ((), (("c", ("made", 4)),)))
        self.assertIsNone(self.store.name_of("3\n"))

    def test_it_comes_behind_the_asked_keys(self):
        self.started(want="cz", capacity=4)
        self.turn()
        self.mill.want("c")
        self.store.lose(4)
        self.settle(("count", (), (1,)), made("3\n"))
        turn = self.turn()
        self.assertEqual((turn["accepted"], turn["done"]), (((("count", (), (1,)), "floor"),), (("z", ("made", 5)),)))
        self.assertEqual(self.store.names(), (1, 2, 3, 5))
        self.assertEqual(self.mill.wanted(), ("c",))

    def test_failures_have_no_text(self):
        self.start()
        self.build([target("a", ("x",)), target("b", ("x",), (), "sort")], "ab", x="one")
        self.settle(("join", (), (1,)), "failed\nno")
        self.turn()
        self.store.lose(1)
        self.assertEqual(self.turn(), NOTHING)
        self.assertEqual(self.store.names(), ())


class PassTests(MillCase):
    """Step 4."""

    # `c` needs `b`, which needs `a`; `d` needs nothing but a source, nor does `e`.
    PARTS = [target("c", (), ("b",), "upper"), target("b", (), ("a",), "sort"), target("a", ("x",)), target("d", ("x",), (), "count"),
             target("e", ("x",), (), "same")]
    A, B, C, D, E = ("join", (), (1,)), ("sort", (), (2,)), ("upper", (), (5,)), ("count", (), (1,)), ("same", (), (1,))
    # The key of `c` if the text of `b` is the third one.
    SHORT = ("upper", (), (3,))

    def started(self, want="ced", **values):
        self.start(**values)
        self.build(self.PARTS, want, x="one")

    def test_a_chain_from_the_cache(self):
        self.started()
        for key, text in ((self.C, "C"), (self.B, "B"), (self.A, "A"), (self.E, "E"), (self.D, "D")):
            self.put_cache(key, made(text))
        turn = self.turn()
        # `a`, `d` and `e` are ready at the beginning of the first pass.
        self.assertEqual(turn["accepted"], tuple([(key, "cache") for key in (self.A, self.D, self.E, self.B, self.C)]))
        self.assertEqual([self.store.text(name) for name in (2, 3, 4, 5, 6)], ["A", "D", "E", "B", "C"])
        self.assertEqual(turn["done"], (("c", ("made", 6)), ("e", ("made", 4)), ("d", ("made", 3))))
        self.assertEqual((self.mill.asked(), self.floor.jobs(), turn["offers"]), ((), (), ()))

    def test_a_chain_from_the_roster(self):
        self.started("c")
        for key, text in ((self.SHORT, "C"), (self.B, "B"), (self.A, "A")):
            self.settle(key, made(text))
        turn = self.turn()
        self.assertEqual(turn["accepted"], tuple([(key, "floor") for key in (self.A, self.B, self.SHORT)]))
        self.assertEqual(self.cache.topics(), tuple([key_text(key) for key in (self.A, self.B, self.SHORT)]))
        self.assertEqual(turn["done"], (("c", ("made", 4)),))

    def test_a_chain_from_both(self):
        self.started("c")
        self.settle(self.A, made("A"))
        cached = self.put_cache(self.B, made("B"))
        self.settle(self.SHORT, "failed\nno")
        turn = self.turn()
        self.assertEqual(turn["accepted"], ((self.A, "floor"), (self.B, "cache"), (self.SHORT, "floor")))
        self.assertEqual(turn["done"], (("c", ("failed", "no")),))
        self.assertEqual(self.mill.evidence(self.B), (made("B"), cached, "cache"))
        self.assertEqual(self.cache.topics(), tuple([key_text(key) for key in (self.B, self.A, self.SHORT)]))

    def test_a_chain_behind_an_asked_key(self):
        self.started("c")
        self.turn()
        self.assertEqual(self.mill.asked(), (self.A,))
        self.settle(self.A, made("A"))
        self.put_cache(self.B, made("B"))
        turn = self.turn()
        self.assertEqual(turn["accepted"], ((self.A, "floor"), (self.B, "cache")))
        self.assertEqual(self.mill.asked(), (self.SHORT,))
        self.assertEqual(self.jobs(), ["upper"])

    def test_the_cache_comes_ahead_of_the_roster(self):
        self.started("a")
        self.settle(self.A, made("from the roster"), "a")
        vouchers = self.put_cache(self.A, made("from the cache"), "b")
        self.assertEqual(self.turn()["accepted"], ((self.A, "cache"),))
        self.assertEqual(self.mill.hand("a"), "from the cache")
        self.assertEqual(self.mill.evidence(self.A), (made("from the cache"), vouchers, "cache"))

    def test_the_roster_does_not_stand_in_for_a_claim_of_the_cache_that_has_no_room(self):
        self.started("a", capacity=1)
        self.settle(self.A, "failed\nno", "a")
        self.put_cache(self.A, made("from the cache"), "b")
        self.assertEqual(self.turn(), NOTHING)
        self.assertEqual(self.mill.asked(), (self.A,))
        # Now it is an asked key, for which the roster alone counts.
        self.assertEqual(self.turn()["accepted"], ((self.A, "floor"),))

    def test_a_cache_whose_claim_is_not_good(self):
        for spoil in (lambda: self.cache.spoil(key_text(self.A), made("worse")), lambda: self.roster.revoke("b"),
                      lambda: self.cache.lose(key_text(self.A))):
            self.started("a", need=2)
            self.put_cache(self.A, made("A"))
            spoil()
            self.assertEqual(self.turn()["accepted"], ())
            self.assertEqual(self.mill.asked(), (self.A,))
            self.settle(self.A, made("A"), "cd")
            self.assertEqual(self.turn()["accepted"], ((self.A, "floor"),))
            self.assertEqual(self.cache.entry(key_text(self.A)), (made("A"), self.roster.vouchers(key_text(self.A))))

    def test_a_cache_whose_claim_is_not_good_and_a_settled_topic(self):
        self.started("a")
        self.put_cache(self.A, made("A"))
        self.cache.spoil(key_text(self.A), made("worse"))
        vouchers = self.settle(self.A, made("A"), "b")
        self.assertEqual(self.turn()["accepted"], ((self.A, "floor"),))
        self.assertEqual(self.mill.evidence(self.A), (made("A"), vouchers, "floor"))

    def test_only_the_vouchers_that_count_are_evidence(self):
        self.started("a", need=2)
        good = self.vouchers(self.A, made("A"), "dbc")
        self.roster.revoke("b")
        self.cache.put(key_text(self.A), made("A"), (("a", "a-9"), good[0], good[1], good[2]))
        self.assertEqual(self.turn()["accepted"], ((self.A, "cache"),))
        self.assertEqual(self.mill.evidence(self.A), (made("A"), (good[0], good[2]), "cache"))
        # The entry of the cache is as it was.
        self.assertEqual(len(self.cache.entry(key_text(self.A))[1]), 4)

    def test_targets_with_one_key(self):
        self.start()
        self.build([target("a", ("x",)), target("b", ("y",)), target("c", (), ("b", "a"))], "c", x="one", y="one")
        self.settle(self.A, made("A"))
        self.assertEqual(self.turn()["accepted"], ((self.A, "floor"),))
        self.assertEqual(self.mill.asked(), (("join", (), (2, 2)),))
        self.assertEqual(self.mill.status("b"), ("made", 2))

    def test_only_what_is_wanted(self):
        self.started("b")
        for key in (self.A, self.D, self.E):
            self.put_cache(key, made(key[0]))
        turn = self.turn()
        self.assertEqual(turn["accepted"], ((self.A, "cache"),))
        self.assertEqual(self.mill.asked(), (self.B,))
        self.assertEqual(self.mill.status("d"), ("ready", self.D))

    def test_a_full_store_in_a_pass(self):
        self.started("ced", capacity=2)
        for key in (self.A, self.D, self.E):
            self.put_cache(key, made(key[0]) if key != self.E else "failed\nno")
        turn = self.turn()
        self.assertEqual(turn["accepted"], ((self.A, "cache"), (self.E, "cache")))
        self.assertEqual(turn["done"], (("e", ("failed", "no")),))
        # In the second pass `b` is ready: it stands ahead of `d` in the order.
        self.assertEqual(self.mill.asked(), (self.B, self.D))


class OfferAndDoneTests(MillCase):
    """Steps 5 and 6, and the value of a turn."""

    PARTS = [target("a", ("x",)), target("b", (), ("a",), "sort"), target("c", ("gone",)), target("d", (), ("c",))]

    def test_the_offers_of_the_floor(self):
        self.start(need=2, lease=10)
        for worker in ("b1", "a1", "a2"):
            self.floor.hire(worker, worker[0], ("join",), 1)
        self.build(self.PARTS, "b", x="one")
        topic = key_text(("join", (), (1,)))
        self.assertEqual(self.turn(5)["offers"], ((1, "a1", topic), (2, "b1", topic)))
        self.assertEqual(self.turn(14)["offers"], ())
        self.assertEqual(self.turn(15)["offers"], ((3, "a2", topic), (4, "b1", topic)))
        self.assertEqual(self.floor.workers(), (("a1", 0, 1), ("a2", 1, 0), ("b1", 1, 1)))

    def test_offers_for_what_became_ready_in_this_turn(self):
        self.start()
        self.floor.hire("a1", "a", ("join", "sort"), 8)
        self.build(self.PARTS, "b", x="one")
        self.turn()
        self.settle(("join", (), (1,)), made("A"))
        turn = self.turn()
        self.assertEqual(turn["accepted"], ((("join", (), (1,)), "floor"),))
        self.assertEqual(turn["offers"], ((2, "a1", key_text(("sort", (), (2,)))),))

    def test_done(self):
        self.start()
        self.build(self.PARTS, "dbac", x="one")
        self.assertEqual(self.turn()["done"], (("d", ("failed", "needs c")), ("c", ("failed", "no file gone"))))
        self.assertEqual(self.mill.wanted(), ("b", "a"))
        self.settle(("join", (), (1,)), made("A"))
        self.assertEqual(self.turn()["done"], (("a", ("made", 2)),))
        self.assertEqual(self.mill.wanted(), ("b",))
        self.settle(("sort", (), (2,)), "failed\nno")
        self.assertEqual(self.turn()["done"], (("b", ("failed", "no")),))
        self.assertEqual(self.mill.wanted(), ())
        self.assertEqual(self.turn(), NOTHING)

    def test_in_the_order_of_the_wants(self):
        self.start()
        self.build([target(label, ("x",)) for label in "abcd"], "cadb", x="one")
        self.settle(("join", (), (1,)), made("A"))
        self.assertEqual([label for label, _ in self.turn()["done"]], ["c", "a", "d", "b"])

    def test_a_text_that_is_not_here(self):
        self.start(capacity=2)
        self.build(self.PARTS, "a", x="one")
        self.settle(("join", (), (1,)), made("A"))
        self.turn()
        self.store.lose(2)
        self.store.put("filler")
        self.mill.want("a")
        self.assertEqual(self.mill.status("a"), ("made", 2))
        for _ in range(2):
            self.assertEqual(self.turn(), NOTHING)
            self.assertEqual(self.mill.wanted(), ("a",))
        self.store.lose(3)
        self.assertEqual(self.turn(), {**NOTHING, "done": (("a", ("made", 2)),)})

    def test_the_value_of_a_turn(self):
        self.start()
        self.build(self.PARTS, x="one")
        turn = self.turn()
        self.assertIs(type(turn), dict)
        self.assertEqual(sorted(turn), ["accepted", "done", "offers", "taken"])
        self.assertEqual(turn, NOTHING)
        for value in turn.values():
            self.assertIs(type(value), tuple)

    def test_a_turn_in_which_nothing_happens(self):
        self.start()
        self.floor.hire("a1", "a", ("join",), 1)
        self.build(self.PARTS, "b", x="one")
        self.turn(0)
        before = self.look()
        for now in (0, 1, 9):
            self.assertEqual(self.turn(now), NOTHING)
            self.assertEqual(self.look(), before)

    def test_the_packets_are_not_changed(self):
        self.start()
        self.floor.hire("a1", "a", ("join",), 1)
        packets = [("a1", "x"), ("a1", "y")]
        self.mill.turn(0, packets)
        self.assertEqual(packets, [("a1", "x"), ("a1", "y")])


class HandTests(MillCase):
    PARTS = [target("a", ("x",)), target("b", (), ("a",), "sort"), target("c", ("gone",))]

    def test_hand(self):
        self.start()
        self.build(self.PARTS, "ac", x="one")
        self.settle(("join", (), (1,)), made("A\n"))
        self.turn()
        self.assertEqual(self.mill.hand("a"), "A\n")

    def test_each_error(self):
        self.start()
        self.build(self.PARTS, "abc", x="one")
        for label in ("a", "b", "c"):
            error = self.problem(GraphProblem, self.mill.hand, label)
            self.assertEqual((error.label, error.reason), (label, "not made"))
        self.settle(("join", (), (1,)), made("A"))
        self.turn()
        self.store.lose(2)
        self.assertEqual(self.problem(Missing, self.mill.hand, "a").name, 2)
        for label in ("x", "", "d"):
            error = self.problem(GraphProblem, self.mill.hand, label)
            self.assertEqual((error.label, error.reason), (label, "unknown"))

    def test_status_and_key(self):
        self.start()
        self.build(self.PARTS, "b", x="one")
        self.assertEqual([self.mill.status(label) for label in "abc"],
                         [("ready", ("join", (), (1,))), ("waiting", None), ("failed", "no file gone")])
        self.assertEqual([self.mill.key_of(label) for label in "abc"], [("join", (), (1,)), None, None])
        for function in (self.mill.status, self.mill.key_of):
            error = self.problem(GraphProblem, function, "x")
            self.assertEqual((error.label, error.reason), ("x", "unknown"))

    def test_evidence_with_both_origins(self):
        self.start(need=2)
        self.build(self.PARTS, "b", x="one")
        settled, cached = self.settle(("join", (), (1,)), made("A")), self.put_cache(("sort", (), (2,)), made("B"))
        self.turn()
        self.assertEqual(self.mill.evidence(("join", (), (1,))), (made("A"), settled, "floor"))
        self.assertEqual(self.mill.evidence(("sort", (), (2,))), (made("B"), cached, "cache"))
        self.assertIsNone(self.mill.evidence(("sort", (), (1,))))
        self.assertEqual(self.mill.accepted_keys(), (("join", (), (1,)), ("sort", (), (2,))))

    def test_evidence_stays_when_the_sources_change(self):
        self.start()
        self.build(self.PARTS, "a", x="one")
        self.settle(("join", (), (1,)), made("A"))
        self.turn()
        self.build([target("q")], "q")
        self.turn()
        self.settle(("join", (), ()), made(""))
        self.turn()
        self.assertEqual(self.mill.accepted_keys(), (("join", (), (1,)), ("join", (), ())))
        self.build(self.PARTS, "a", x="one")
        self.assertEqual(self.turn(), {**NOTHING, "done": (("a", ("made", 2)),)})


class WholeBuildTests(MillCase):
    """Point 54: every result is that of a clean build, as long as an honest house vouches for each."""

    def setUp(self):
        # The evidence of all keys that were accepted, by several mills.
        self.accepted = []

    def random_targets(self, chance, many):
        tools = (("join", ()), ("join", (",",)), ("upper", ()), ("sort", ()), ("head", ("2",)), ("swap", ("a", "bb")), ("count", ()),
                 ("pick", ("a",)), ("same", ()), ("need", ("a",)), ("none", ()), ("head", ("x",)))
        targets = []
        for at in range(many):
            tool, args = chance.choice(tools)
            sources = tuple(chance.choices(("p", "q", "r", "s", "gone"), (9, 9, 9, 9, 1), k=chance.randrange(3)))
            needs = tuple(chance.sample([f"t{number}" for number in range(at)], min(at, chance.randrange(3))))
            targets.append(target(f"t{at}", sources, needs, tool, args))
        return targets

    def random_texts(self, chance):
        lines = ("a\n", "b\n", "ab\n", "c", "", "a a\n")
        return {path: "".join(chance.choices(lines, k=chance.randrange(5))) for path in "pqrs"}

    def change_sources(self, chance):
        self.texts = self.random_texts(chance)
        self.build(self.random_targets(chance, chance.randrange(2, 9)), **self.texts)
        self.crew.learn(self.store)
        self.want_some(chance)

    def restart(self, chance):
        """Go on with another mill, which remembers nothing, but finds the cache and the roster as they are."""
        tree = self.mill.tree()
        self.mill = Mill(self.store, self.roster, self.floor, self.cache)
        self.mill.sources(self.graph, tree)
        self.want_some(chance)

    def want_some(self, chance):
        for action in chance.sample(self.graph, chance.randrange(1, len(self.graph) + 1)):
            self.mill.want(action[0])

    def check_all(self):
        """Compare all that is made or failed with a clean build; return how many results there are."""
        expected = clean_build(self.graph, self.texts)
        many = 0
        for action in self.graph:
            state, told = self.mill.status(action[0])
            if state == "made":
                self.assertEqual(("made", self.crew.texts[told]), expected[action[0]])
                many += 1
            elif state == "failed":
                self.assertEqual(("failed", told), expected[action[0]])
                many += 1
        return many

    def spoil(self, chance, liars):
        """Let the disk and the cache do something bad."""
        if self.store.names() and chance.random() < 0.2:
            self.store.lose(chance.choice(self.store.names()))
        keys = self.mill.asked() + self.mill.accepted_keys()
        if keys and chance.random() < 0.3:
            key, lie = chance.choice(keys), chance.choice((made("lie"), "failed\nlie", "none"))
            kind = chance.choice(("lose", "spoil", "put"))
            if kind == "lose":
                self.cache.lose(key_text(key))
            elif kind == "spoil":
                self.cache.spoil(key_text(key), lie)
            else:
                # All liars vouch for it, as often as they like, and some marks are for other words.
                vouchers = self.vouchers(key, lie, liars * 2) + self.vouchers(key, "x", self.roster.houses())
                self.cache.put(key_text(key), lie, vouchers)

    def run_builds(self, chance, need, ways, loss=0.3):
        """Run several builds with one worker or two of each house; return how many results were checked."""
        self.start(need=need, lease=chance.choice((2, 5, 20)), size=chance.choice((1, 3, 40)), houses="abcde"[:len(ways)])
        self.crew = Crew(self.floor, self.roster.sign, chance, loss)
        tools = ("join", "upper", "sort", "head", "swap", "count", "pick", "same", "need", "none")
        for house, way in zip("abcde", ways):
            for number in range(chance.choice((1, 2))):
                self.floor.hire(f"{house}{number}", house, tools, chance.choice((1, 3)))
                self.crew.add(f"{house}{number}", house, way if number == 0 else "honest" if way in ("silent", "busy", "late") else way)
        checked, now = 0, 0
        liars = [house for house, way in zip("abcde", ways) if way in ("lie", "sly")]
        for renew in (self.change_sources, self.restart, self.change_sources, self.restart):
            renew(chance)
            for _ in range(500):
                now += chance.choice((0, 1, 2))
                turn = self.mill.turn(now, self.crew.packets())
                self.crew.learn(self.store)
                checked += self.check_all()
                for label, status in turn["done"]:
                    self.check_done(label, status)
                if self.mill.wanted() == ():
                    break
                self.spoil(chance, liars)
                self.accepted += [self.mill.evidence(key) for key, _ in turn["accepted"]]
                if chance.random() < 0.01:
                    self.change_sources(chance)
            self.assertEqual(self.mill.wanted(), ())
        return checked

    def check_done(self, label, status):
        expected = clean_build(self.graph, self.texts)[label]
        if status[0] == "made":
            self.assertEqual(("made", self.mill.hand(label)), expected)
        else:
            self.assertEqual(status, expected)

    def test_honest_houses(self):
        for need in (1, 2, 3):
            chance = random.Random(need)
            for _ in range(20):
                self.assertGreater(self.run_builds(chance, need, ["honest"] * need, chance.choice((0, 0.3))), 0)
        origins = [origin for _, _, origin in self.accepted]
        self.assertGreater(origins.count("floor"), 100)
        self.assertGreater(origins.count("cache"), 10)

    def test_houses_that_lie(self):
        for need in (2, 3):
            chance = random.Random(10 + need)
            for _ in range(30):
                ways = ["lie"] * (need - 1) + ["honest"] * need
                chance.shuffle(ways)
                self.assertGreater(self.run_builds(chance, need, ways), 0)
                self.assertGreater(sum([self.roster.strikes(house) for house in self.roster.houses()]), 0)

    def test_one_honest_house_among_those_that_vouch(self):
        # The others are one less than are needed: they tell the truth about some keys, and lie about the rest.
        chance = random.Random(30)
        strikes = 0
        for _ in range(20):
            self.run_builds(chance, 3, ["sly", "sly", "honest", "honest", "honest"])
            strikes += self.roster.strikes("a") + self.roster.strikes("b")
        honest = [{house for house, _ in vouchers} & {"c", "d", "e"} for _, vouchers, _ in self.accepted]
        self.assertNotIn(set(), honest)
        self.assertGreater(len([houses for houses in honest if len(houses) == 1]), 20)
        self.assertGreater(strikes, 20)

    def test_workers_that_are_silent_or_busy_or_late(self):
        chance = random.Random(20)
        for _ in range(30):
            ways = ["honest", "honest", chance.choice(("silent", "busy", "late")), chance.choice(("busy", "late", "nonsense"))]
            chance.shuffle(ways)
            self.assertGreater(self.run_builds(chance, 2, ways), 0)

    def test_lies_that_too_many_houses_sign(self):
        # Without an honest voucher nothing is promised: this shows that the tests above could fail.
        self.start(need=2)
        self.build([target("a", ("x",))], "a", x="one")
        self.settle(("join", (), (1,)), made("lie"))
        self.turn()
        self.assertNotEqual(("made", self.mill.hand("a")), clean_build(self.graph, {"x": "one"})["a"])

    def test_houses_that_lie_about_a_key_that_others_settled(self):
        # `c` is honest about one key, and lies about the other one.
        self.start(need=2)
        self.build([target("a", ("x",)), target("b", ("x",), (), "upper")], "ab", x="one")
        self.settle(("join", (), (1,)), made("one"), "ab")
        self.settle(("upper", (), (1,)), made("ONE"), "bc")
        for house, mark in self.vouchers(("join", (), (1,)), made("lie"), "cd"):
            self.assertEqual(self.roster.tell(key_text(("join", (), (1,))), house, made("lie"), mark), "otherwise")
        self.turn()
        self.assertEqual([self.mill.hand(label) for label in "ab"], ["one", "ONE"])


class StoreLimitTests(MillCase):
    def test_a_store_with_little_room_makes_what_it_can(self):
        self.start(capacity=3)
        self.build([target("a", ("x",)), target("b", (), ("a",), "sort"), target("c", (), ("b",), "upper")], "c", x="one")
        for key, text in ((("join", (), (1,)), "A"), (("sort", (), (2,)), "B"), (("upper", (), (3,)), "C")):
            self.settle(key, made(text))
        turn = self.turn()
        self.assertEqual([key[0] for key, _ in turn["accepted"]], ["join", "sort"])
        self.assertRaises(StoreFull, self.store.put, "more")
        self.store.lose(1)
        self.assertEqual(self.turn()["done"], (("c", ("made", 4)),))

    def test_the_claim_of_a_result(self):
        # The evidence is the claim as it was signed, also where it is the claim of a result.
        self.start()
        self.build([target("a", ("x",))], "a", x="one")
        claim = claim_text(("made", "failed\nmade\n"))
        self.settle(("join", (), (1,)), claim)
        self.turn()
        self.assertEqual(self.mill.hand("a"), "failed\nmade\n")


if __name__ == "__main__":
    unittest.main()
