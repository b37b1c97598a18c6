"""Points 41 to 44: workers, jobs, offers and answers."""

import random
import re
import unittest

from truemill.errors import FloorProblem
from truemill.floor import Floor, read_answer
from truemill.keys import key_text
from truemill.link import Link
from truemill.roster import Roster, words_of


def topic_of(number, tool="join"):
    """Return the text of a key."""
    return key_text((tool, (), (number,)))


T1, T2, T3, T4 = [topic_of(number) for number in (1, 2, 3, 4)]


class FloorCase(unittest.TestCase):
    def start(self, need=1, lease=10, workers="a b c", slots=8):
        """Make a floor and its roster; each worker is called like its house, with a digit behind it."""
        self.roster = Roster(need)
        self.floor = Floor(self.roster, lease)
        self.links = {}
        for worker in workers.split():
            self.hire(worker, slots=slots)

    def hire(self, worker, tools=("join",), slots=8):
        house = worker[0]
        if house not in self.roster.houses():
            self.roster.add(house)
        self.floor.hire(worker, house, tools, slots)
        self.links[worker] = Link(worker, "mill")

    def ask(self, *topics):
        for topic in topics:
            self.assertIs(self.floor.ask(topic), True)

    def hear(self, worker):
        """Bring all packets for a worker to it; return the bodies that are new."""
        heard = [self.links[worker].take(packet) for packet in self.floor.out(worker)]
        return [body for news, body in heard if news == "new"]

    def answer(self, worker, body):
        """Bring a body of a worker to the floor."""
        self.hear(worker)
        return self.floor.take(worker, self.links[worker].send(body))

    def told(self, number, worker, topic, claim="made\nx"):
        """Return the body with which a worker tells a claim, with a mark of its house."""
        mark = self.roster.sign(worker[0], words_of(topic, claim))
        return f"told {number} {mark}\n{claim}"

    def voice(self, house, topic, claim="made\nx"):
        """Let a house tell the roster a claim, past the floor."""
        return self.roster.tell(topic, house, claim, self.roster.sign(house, words_of(topic, claim)))

    def problem(self, function, *values):
        with self.assertRaises(FloorProblem) as caught:
            function(*values)
        return caught.exception.reason

    def loads(self):
        """Return a dict from workers to their numbers of open offers."""
        return {worker: load for worker, load, _ in self.floor.workers()}

    def lapses(self):
        return {worker: lapses for worker, _, lapses in self.floor.workers()}


class HireTests(FloorCase):
    def test_workers_ascending(self):
        self.start(workers="")
        self.assertEqual(self.floor.workers(), ())
        for house in "ab":
            self.roster.add(house)
        for worker in ("m", "b-2", "z", "a.1", "10"):
            self.assertIsNone(self.floor.hire(worker, "a", ("join",), 1))
        self.assertEqual(self.floor.workers(), tuple([(worker, 0, 0) for worker in ("10", "a.1", "b-2", "m", "z")]))

    def test_each_error(self):
        self.start(workers="a b1")
        self.assertEqual(self.problem(self.floor.hire, "a", "a", ("join",), 1), "duplicate")
        self.assertEqual(self.problem(self.floor.hire, "a", "b", (), 2), "duplicate")
        self.assertEqual(self.problem(self.floor.hire, "x", "c", ("join",), 1), "unknown house")
        self.assertEqual(self.problem(self.floor.hire, "x", "b1", ("join",), 1), "unknown house")
        self.assertEqual(self.floor.workers(), (("a", 0, 0), ("b1", 0, 0)))

    def test_20_workers_and_two_errors_at_once(self):
        self.start(workers=" ".join([f"a{number}" for number in range(20)]))
        before = self.floor.workers()
        self.assertEqual(len(before), 20)
        self.assertEqual(self.problem(self.floor.hire, "x", "a", ("join",), 1), "full")
        self.assertEqual(self.problem(self.floor.hire, "x", "y", ("join",), 1), "unknown house")
        self.assertEqual(self.problem(self.floor.hire, "a7", "a", ("join",), 1), "duplicate")
        self.assertEqual(self.problem(self.floor.hire, "a7", "y", ("join",), 1), "duplicate")
        self.assertEqual(self.floor.workers(), before)
        self.assertEqual(self.problem(self.floor.out, "x"), "unknown worker")

    def test_a_hire_that_fails_leaves_the_worker_as_it_was(self):
        self.start(workers="a1 b1")
        self.problem(self.floor.hire, "a1", "b", ("sort",), 1)
        self.ask(T1, T2)
        self.assertEqual(self.floor.turn(0), ((1, "a1", T1), (2, "a1", T2)))

    def test_a_house_that_was_revoked(self):
        self.start(workers="a")
        self.roster.revoke("a")
        self.assertIsNone(self.floor.hire("a2", "a", ("join",), 1))
        self.assertEqual(self.floor.workers(), (("a", 0, 0), ("a2", 0, 0)))
        self.ask(T1)
        self.assertEqual(self.floor.turn(0), ())

    def test_the_link_of_each_worker(self):
        self.start(workers="a1 b-2")
        self.assertEqual(self.floor.out("a1"), ("mill a1 0 0\n",))
        self.assertEqual(self.floor.out("b-2"), ("mill b-2 0 0\n",))


class JobTests(FloorCase):
    def test_jobs_in_the_order_in_which_they_were_asked(self):
        self.start()
        self.assertEqual(self.floor.jobs(), ())
        self.ask(T3, T1, T2)
        self.assertEqual(self.floor.jobs(), (T3, T1, T2))

    def test_a_job_that_is_asked_again(self):
        self.start()
        self.ask(T2, T1)
        self.assertIs(self.floor.ask(T2), False)
        self.assertEqual(self.floor.jobs(), (T2, T1))
        self.floor.turn(0)
        self.assertIs(self.floor.ask(T1), False)

    def test_a_topic_that_is_settled(self):
        self.start(need=2)
        self.assertEqual(self.voice("a", T1), "told")
        self.assertIs(self.floor.ask(T1), True)
        self.assertIs(self.floor.drop(T1), True)
        self.assertEqual(self.voice("b", T1), "settled")
        self.assertIs(self.floor.ask(T1), False)
        self.assertEqual(self.floor.jobs(), ())
        self.assertIs(self.floor.drop(T1), False)

    def test_a_job_that_was_dropped(self):
        self.start()
        self.ask(T1, T2, T3)
        self.assertIs(self.floor.drop(T1), True)
        self.assertEqual(self.floor.jobs(), (T2, T3))
        self.assertIs(self.floor.drop(T1), False)
        self.assertIs(self.floor.ask(T1), True)
        self.assertEqual(self.floor.jobs(), (T2, T3, T1))

    def test_drop_of_what_is_no_job(self):
        self.start()
        self.assertIs(self.floor.drop(T1), False)
        self.ask(T1)
        self.assertIs(self.floor.drop(T2), False)
        self.assertEqual(self.floor.jobs(), (T1,))

    def test_drop_closes_open_offers_without_lapses(self):
        self.start(need=2, lease=5)
        self.ask(T1, T2)
        self.floor.turn(0)
        self.assertEqual(self.loads(), {"a": 2, "b": 2, "c": 0})
        self.assertIs(self.floor.drop(T1), True)
        self.assertEqual(self.floor.workers(), (("a", 1, 0), ("b", 1, 0), ("c", 0, 0)))
        self.assertEqual(self.floor.turn(4), ())
        self.floor.drop(T2)
        self.assertEqual(self.floor.turn(20), ())
        self.assertEqual(self.floor.workers(), (("a", 0, 0), ("b", 0, 0), ("c", 0, 0)))

    def test_a_job_that_is_asked_again_after_a_drop_gets_new_offers(self):
        self.start()
        self.ask(T1)
        self.assertEqual(self.floor.turn(0), ((1, "a", T1),))
        self.floor.drop(T1)
        self.ask(T1)
        self.assertEqual(self.floor.turn(0), ((2, "a", T1),))


class FitTests(FloorCase):
    def offered(self, topic=T1, now=0):
        """Ask for a topic, and return the workers that get an offer for it."""
        self.floor.ask(topic)
        return [worker for _, worker, about in self.floor.turn(now) if about == topic]

    def test_a_house_that_is_revoked(self):
        self.start(workers="a b")
        self.roster.revoke("a")
        self.assertEqual(self.offered(), ["b"])
        self.roster.revoke("b")
        self.assertEqual(self.offered(T2), [])

    def test_a_house_that_is_revoked_keeps_its_open_offers(self):
        self.start(workers="a b")
        self.assertEqual(self.offered(), ["a"])
        self.roster.revoke("a")
        self.assertEqual(self.floor.turn(9), ())
        self.assertEqual(self.floor.turn(10), ((2, "b", T1),))

    def test_slots(self):
        for slots in (1, 2, 8):
            self.start(workers="a b", slots=slots)
            self.ask(*[topic_of(number) for number in range(1, slots + 2)])
            self.assertEqual([worker for _, worker, _ in self.floor.turn(0)], ["a"] * slots + ["b"])
            self.assertEqual(self.loads(), {"a": slots, "b": 1})

    def test_no_slots_left_at_all(self):
        self.start(workers="a b", slots=1)
        self.ask(T1, T2, T3)
        self.assertEqual(self.floor.turn(0), ((1, "a", T1), (2, "b", T2)))
        self.assertEqual(self.floor.turn(1), ())
        self.assertEqual(self.floor.jobs(), (T1, T2, T3))

    def test_tools(self):
        self.start(workers="")
        self.hire("a", ("sort", "upper"))
        self.hire("b", ("join", "sort"))
        self.hire("c", ())
        self.hire("d", ("jo", "joinjoin", "in 1", ""))
        self.assertEqual(self.offered(topic_of(1, "join")), ["b"])
        self.assertEqual(self.offered(topic_of(1, "upper")), ["a"])
        self.assertEqual(self.offered(topic_of(1, "sort")), ["a"])
        self.assertEqual(self.offered(topic_of(1, "count")), [])
        self.assertEqual(self.offered(key_text(("head", ("join",), ()))), [])
        self.assertEqual(self.offered(key_text(("join", (), ()))), ["b"])

    def test_a_house_with_a_voice(self):
        self.start(need=3, workers="a1 a2 b c d")
        self.voice("a", T1)
        self.voice("c", T1, "failed\n")
        self.voice("b", T2)
        self.assertEqual(self.offered(), ["b", "d"])

    def test_a_house_with_an_open_offer(self):
        self.start(need=2, workers="a1 a2 b1 b2")
        self.assertEqual(self.offered(), ["a1", "b1"])
        self.start(need=3, workers="a1 a2 a3 b1")
        self.assertEqual(self.offered(), ["a1", "b1"])
        self.assertEqual(self.floor.turn(1), ())
        self.assertEqual(self.offered(T2, 1), ["a1", "b1"])

    def test_another_worker_of_a_house_gets_the_offer_that_one_of_them_let_lapse(self):
        self.start(need=1, workers="a1 a2")
        self.assertEqual([self.floor.ask(T1)] + [self.floor.turn(now) for now in (0, 10, 20, 30)],
                         [True, ((1, "a1", T1),), ((2, "a2", T1),), ((3, "a1", T1),), ((4, "a2", T1),)])

    def test_a_link_that_cannot_send(self):
        self.start(workers="a b")
        for number in range(1, 9):
            self.assertEqual(self.offered(topic_of(number)), ["a"])
            self.floor.drop(topic_of(number))
        self.assertEqual(self.loads(), {"a": 0, "b": 0})
        self.assertEqual(self.offered(topic_of(9)), ["b"])
        self.floor.drop(topic_of(9))
        # The worker acknowledges one of the offers: there is room for one more.
        self.assertEqual(self.floor.take("a", "a mill 0 1\n"), ("bare", None))
        self.assertEqual(self.offered(topic_of(10)), ["a"])
        self.floor.drop(topic_of(10))
        self.assertEqual(self.offered(topic_of(11)), ["b"])

    def test_no_link_can_send(self):
        self.start(workers="a")
        for number in range(1, 9):
            self.offered(topic_of(number))
            self.floor.drop(topic_of(number))
        self.ask(T1)
        self.assertEqual(self.floor.turn(0), ())
        self.hear("a")
        self.floor.take("a", self.links["a"].word())
        self.assertEqual(self.floor.turn(0), ((9, "a", T1),))


class OfferTests(FloorCase):
    def test_nothing(self):
        self.start(workers="")
        self.assertEqual(self.floor.turn(0), ())
        self.ask(T1)
        self.assertEqual(self.floor.turn(5), ())
        self.start()
        self.assertEqual(self.floor.turn(0), ())

    def test_the_needed_number_of_offers(self):
        for need in (1, 2, 3):
            self.start(need=need, workers="e d c b a")
            self.ask(T1)
            self.assertEqual(self.floor.turn(0), tuple([(at + 1, "abc"[at], T1) for at in range(need)]))
            self.assertEqual(self.floor.turn(0), ())
            self.assertEqual(sum(self.loads().values()), need)

    def test_too_few_workers(self):
        self.start(need=3, workers="b a")
        self.ask(T1, T2)
        self.assertEqual(self.floor.turn(0), ((1, "a", T1), (2, "b", T1), (3, "a", T2), (4, "b", T2)))
        self.hire("c")
        self.assertEqual(self.floor.turn(3), ((5, "c", T1), (6, "c", T2)))

    def test_jobs_in_order(self):
        self.start(workers="a b", slots=1)
        self.ask(T3, T1, T2)
        self.assertEqual(self.floor.turn(0), ((1, "a", T3), (2, "b", T1)))
        self.assertEqual(self.floor.turn(1), ())
        self.floor.drop(T3)
        self.assertEqual(self.floor.turn(1), ((3, "a", T2),))

    def test_the_fewest_lapses_and_then_the_least_name(self):
        self.start(need=1, lease=1, workers="c b a", slots=1)
        self.ask(T1)
        # Each of them lets an offer lapse in its turn.
        told = [self.floor.turn(now)[0][1] for now in range(7)]
        self.assertEqual(told, ["a", "b", "c", "a", "b", "c", "a"])
        self.assertEqual(self.lapses(), {"a": 2, "b": 2, "c": 2})

    def test_fewer_lapses_count_more_than_the_name(self):
        self.start(need=2, lease=1, workers="b a c")
        self.ask(T1)
        self.assertEqual(self.floor.turn(0), ((1, "a", T1), (2, "b", T1)))
        self.assertEqual(self.floor.turn(1), ((3, "c", T1), (4, "a", T1)))
        self.assertEqual(self.floor.turn(2), ((5, "b", T1), (6, "c", T1)))
        self.assertEqual(self.lapses(), {"a": 2, "b": 1, "c": 1})

    def test_names_in_their_order(self):
        self.start(workers="b10 b9 c a_ a-")
        self.ask(T1)
        self.assertEqual(self.floor.turn(0), ((1, "a-", T1),))

    def test_voices_do_not_lower_the_number_of_offers(self):
        self.start(need=2, workers="a b c d")
        self.voice("a", T1)
        self.ask(T1)
        self.assertEqual(self.floor.turn(0), ((1, "b", T1), (2, "c", T1)))
        self.assertEqual(self.answer("b", self.told(1, "b", T1, "failed\nno")), ("new", "told"))
        self.assertEqual(self.floor.turn(0), ((3, "d", T1),))

    def test_the_lease(self):
        for lease in (1, 10, 100):
            self.start(lease=lease, workers="a")
            self.ask(T1)
            self.assertEqual(self.floor.turn(7), ((1, "a", T1),))
            self.assertEqual(self.floor.turn(7), ())
            self.assertEqual(self.floor.turn(7 + lease - 1), ())
            self.assertEqual(self.floor.workers(), (("a", 1, 0),))
            self.assertEqual(self.floor.turn(7 + lease), ((2, "a", T1),))
            self.assertEqual(self.floor.workers(), (("a", 1, 1),))
            self.assertEqual(self.floor.turn(7 + 2 * lease + 5), ((3, "a", T1),))
            self.assertEqual(self.floor.workers(), (("a", 1, 2),))
            self.assertEqual(self.floor.turn(7 + 3 * lease + 4), ())
            self.assertEqual(self.floor.turn(7 + 3 * lease + 5), ((4, "a", T1),))

    def test_only_the_offers_that_are_late_end(self):
        self.start(lease=10, workers="a b c", slots=1)
        for now, topic in ((0, T1), (1, T2), (2, T3)):
            self.ask(topic)
            self.floor.turn(now)
        self.assertEqual(self.floor.turn(11), ((4, "a", T1), (5, "b", T2)))
        self.assertEqual(self.floor.workers(), (("a", 1, 1), ("b", 1, 1), ("c", 1, 0)))
        self.assertEqual(self.floor.turn(12), ((6, "c", T3),))

    def test_several_offers_of_one_worker_lapse(self):
        self.start(lease=10, workers="a")
        self.ask(T1, T2, T3)
        self.floor.turn(0)
        self.floor.turn(10)
        self.assertEqual(self.floor.workers(), (("a", 3, 3),))

    def test_slots_are_free_again_after_a_lapse(self):
        self.start(lease=10, workers="a", slots=1)
        self.ask(T1, T2)
        self.assertEqual(self.floor.turn(0), ((1, "a", T1),))
        self.assertEqual(self.floor.turn(9), ())
        self.floor.drop(T1)
        self.assertEqual(self.floor.turn(9), ((2, "a", T2),))
        self.ask(T3)
        self.assertEqual(self.floor.turn(18), ())
        self.assertEqual(self.floor.turn(19), ((3, "a", T2),))

    def test_slots_are_free_again_after_an_answer(self):
        for body in ("told 1 x\nc", "busy 1"):
            self.start(workers="a", slots=1)
            self.ask(T1, T2)
            self.floor.turn(0)
            self.assertEqual(self.floor.turn(0), ())
            self.answer("a", body)
            self.assertEqual(self.floor.turn(0), ((2, "a", T1),))
        self.start(workers="a", slots=1)
        self.ask(T1, T2)
        self.floor.turn(0)
        self.answer("a", self.told(1, "a", T1))
        self.assertEqual(self.floor.turn(0), ((2, "a", T2),))

    def test_a_topic_that_is_settled_between_two_turns(self):
        self.start(need=2, lease=10, workers="a b c d")
        self.ask(T1, T2)
        self.floor.turn(0)
        self.voice("c", T1)
        self.voice("d", T1)
        self.assertEqual(self.floor.jobs(), (T1, T2))
        self.assertEqual(self.loads(), {"a": 2, "b": 2, "c": 0, "d": 0})
        # What is settled ends before what is late: it causes no lapse.
        self.assertEqual(self.floor.turn(10), ((5, "c", T2), (6, "d", T2)))
        self.assertEqual(self.floor.jobs(), (T2,))
        self.assertEqual(self.floor.workers(), (("a", 0, 1), ("b", 0, 1), ("c", 1, 0), ("d", 1, 0)))

    def test_a_topic_that_is_settled_leaves_room(self):
        self.start(workers="a b", slots=1)
        self.ask(T1, T2, T3)
        self.assertEqual(self.floor.turn(0), ((1, "a", T1), (2, "b", T2)))
        self.voice("b", T1)
        self.assertEqual(self.floor.turn(0), ((3, "a", T3),))
        self.assertEqual(self.floor.jobs(), (T2, T3))

    def test_numbers_count_over_the_floor(self):
        self.start(need=2, lease=3, workers="a b")
        self.ask(T1)
        self.assertEqual([number for number, _, _ in self.floor.turn(0)], [1, 2])
        self.ask(T2)
        self.assertEqual([number for number, _, _ in self.floor.turn(1)], [3, 4])
        self.assertEqual([number for number, _, _ in self.floor.turn(4)], [5, 6, 7, 8])

    def test_two_turns_at_the_same_time(self):
        self.start(lease=5, workers="a b")
        self.ask(T1)
        self.assertEqual(self.floor.turn(3), ((1, "a", T1),))
        self.ask(T2)
        self.assertEqual(self.floor.turn(3), ((2, "a", T2),))
        self.assertEqual(self.floor.turn(8), ((3, "b", T1), (4, "b", T2)))
        self.assertEqual(self.floor.turn(8), ())
        self.assertEqual(self.floor.workers(), (("a", 0, 2), ("b", 2, 0)))


class OutTests(FloorCase):
    def test_the_text_of_an_offer(self):
        self.start(workers="a b", slots=2)
        topic = key_text(("join", (" ", ""), (3, 40)))
        self.ask(topic, T1, T2)
        self.floor.turn(0)
        self.assertEqual(self.floor.out("a"), ("mill a 1 0\noffer 1\njoin\narg  \narg \nin 3\nin 40\n", "mill a 2 0\noffer 2\n" + T1))
        self.assertEqual(self.floor.out("b"), ("mill b 1 0\noffer 3\n" + T2,))
        self.assertEqual(self.hear("a"), ["offer 1\n" + topic, "offer 2\n" + T1])

    def test_with_kept_packets_and_without(self):
        self.start(workers="a b")
        self.assertEqual(self.floor.out("a"), ("mill a 0 0\n",))
        self.ask(T1, T2)
        self.floor.turn(0)
        self.assertEqual(len(self.floor.out("a")), 2)
        self.assertEqual(self.floor.out("a"), self.floor.out("a"))
        self.assertEqual(self.floor.take("a", "a mill 0 1\n"), ("bare", None))
        self.assertEqual(self.floor.out("a"), ("mill a 2 0\noffer 2\n" + T2,))
        self.assertEqual(self.floor.take("a", "a mill 1 2\nx"), ("new", "odd"))
        self.assertEqual(self.floor.out("a"), ("mill a 0 1\n",))
        self.assertEqual(self.floor.out("b"), ("mill b 0 0\n",))

    def test_offers_that_are_closed_are_kept_until_they_are_acknowledged(self):
        self.start(workers="a")
        self.ask(T1)
        self.floor.turn(0)
        self.floor.drop(T1)
        self.assertEqual(self.floor.out("a"), ("mill a 1 0\noffer 1\n" + T1,))

    def test_an_unknown_worker(self):
        self.start(workers="a")
        for worker in ("b", "mill", ""):
            self.assertEqual(self.problem(self.floor.out, worker), "unknown worker")
            self.assertEqual(self.problem(self.floor.take, worker, "b mill 1 0\nx"), "unknown worker")


class AnswerTests(FloorCase):
    def started(self, need=1, workers="a b", topics=(T1, T2)):
        self.start(need=need, workers=workers)
        self.ask(*topics)
        self.floor.turn(0)

    def test_the_news_of_the_link(self):
        self.started()
        self.assertEqual(self.floor.take("a", "b mill 1 0\nbusy 1"), ("odd", None))
        self.assertEqual(self.floor.take("a", "a mill 1 3\nbusy 1"), ("odd", None))
        self.assertEqual(self.floor.take("a", "a mill 0 1\n"), ("bare", None))
        self.assertEqual(self.floor.take("a", "a mill 2 0\nbusy 1"), ("early", None))
        self.assertEqual(self.floor.workers(), (("a", 2, 0), ("b", 0, 0)))
        self.assertEqual(self.floor.take("a", "a mill 1 0\nbusy 1"), ("new", "busy"))
        self.assertEqual(self.floor.take("a", "a mill 1 0\nbusy 2"), ("old", None))
        self.assertEqual(self.floor.workers(), (("a", 1, 1), ("b", 0, 0)))

    def test_busy(self):
        self.started()
        self.assertEqual(self.answer("a", "busy 1"), ("new", "busy"))
        self.assertEqual(self.floor.workers(), (("a", 1, 1), ("b", 0, 0)))
        self.assertEqual(self.floor.turn(0), ((3, "b", T1),))
        # The offer is closed, but it counts again.
        self.assertEqual(self.answer("a", "busy 1"), ("new", "busy"))
        self.assertEqual(self.floor.workers(), (("a", 1, 2), ("b", 1, 0)))

    def test_told(self):
        self.started(need=2, workers="a b c")
        self.assertEqual(self.answer("a", self.told(1, "a", T1)), ("new", "told"))
        self.assertIs(self.roster.has_voice(T1, "a"), True)
        self.assertEqual(self.floor.workers(), (("a", 1, 0), ("b", 2, 0), ("c", 0, 0)))
        self.assertEqual(self.answer("b", self.told(2, "b", T1)), ("new", "settled"))
        self.assertEqual(self.roster.claim_of(T1), "made\nx")
        self.assertEqual(self.roster.vouchers(T1), (("a", "a-1"), ("b", "b-2")))
        self.assertEqual(self.floor.jobs(), (T1, T2))
        self.assertEqual(self.lapses(), {"a": 0, "b": 0, "c": 0})

    def test_each_answer_of_tell(self):
        self.started(need=2, workers="a b c d")
        self.assertEqual(self.answer("a", "told 1 a-9\nmade\nx"), ("new", "bad"))
        self.assertEqual(self.lapses(), {"a": 1, "b": 0, "c": 0, "d": 0})
        self.assertEqual(self.answer("a", self.told(1, "a", T1)), ("new", "told"))
        self.assertEqual(self.answer("a", self.told(1, "a", T1)), ("new", "again"))
        self.assertEqual(self.answer("a", self.told(1, "a", T1, "made\ny")), ("new", "changed"))
        self.assertEqual(self.roster.strikes("a"), 1)
        self.assertEqual(self.answer("b", self.told(2, "b", T1)), ("new", "settled"))
        # A worker whose offer is of another topic tells about that topic alone.
        self.assertEqual(self.answer("b", self.told(4, "b", T1)), ("new", "bad"))
        self.assertEqual(self.lapses(), {"a": 1, "b": 1, "c": 0, "d": 0})

    def test_answers_behind_a_settled_topic(self):
        self.start(need=1, lease=1, workers="a b c")
        self.ask(T1)
        for now in range(3):
            self.floor.turn(now)
        self.assertEqual(self.answer("b", self.told(2, "b", T1)), ("new", "settled"))
        self.assertEqual(self.answer("a", self.told(1, "a", T1)), ("new", "alike"))
        self.assertEqual(self.answer("c", self.told(3, "c", T1, "failed\nx")), ("new", "otherwise"))
        self.assertEqual(self.floor.workers(), (("a", 0, 1), ("b", 0, 1), ("c", 0, 0)))

    def test_bad(self):
        self.started()
        for at, mark in enumerate(("x", "a-1", "b-2", "told", "offer")):
            self.assertEqual(self.answer("a", f"told 1 {mark}\nmade\nx"), ("new", "bad"))
            self.assertEqual(self.floor.workers(), (("a", 1, at + 1), ("b", 0, 0)))

    def test_a_mark_of_another_house(self):
        self.started()
        mark = self.roster.sign("b", words_of(T1, "made\nx"))
        self.assertEqual(self.answer("a", f"told 1 {mark}\nmade\nx"), ("new", "bad"))

    def test_a_house_that_was_revoked(self):
        self.started()
        body = self.told(1, "a", T1)
        self.roster.revoke("a")
        self.assertEqual(self.answer("a", body), ("new", "bad"))
        self.assertEqual(self.lapses(), {"a": 1, "b": 0})

    def test_an_offer_of_a_job_that_was_dropped(self):
        self.started()
        self.floor.drop(T1)
        self.floor.drop(T2)
        self.assertEqual(self.answer("a", "busy 1"), ("new", "busy"))
        self.assertEqual(self.answer("a", self.told(1, "a", T1)), ("new", "settled"))
        self.assertEqual(self.answer("a", "told 2 x\n"), ("new", "bad"))
        self.assertEqual(self.floor.workers(), (("a", 0, 2), ("b", 0, 0)))
        self.assertEqual(self.roster.claim_of(T1), "made\nx")

    def test_an_offer_that_lapsed(self):
        self.started(topics=(T1,))
        self.assertEqual(self.floor.turn(10), ((2, "b", T1),))
        self.assertEqual(self.answer("a", self.told(1, "a", T1)), ("new", "settled"))
        self.assertEqual(self.floor.workers(), (("a", 0, 1), ("b", 1, 0)))
        self.assertEqual(self.floor.turn(10), ())
        self.assertEqual(self.floor.workers(), (("a", 0, 1), ("b", 0, 0)))

    def test_an_answer_closes_its_own_offer_alone(self):
        self.started(need=2, workers="a b c", topics=(T1, T2))
        self.assertEqual(self.answer("b", "busy 4"), ("new", "busy"))
        self.assertEqual(self.loads(), {"a": 2, "b": 1, "c": 0})
        self.assertEqual(self.floor.turn(1), ((5, "c", T2),))

    def test_offers_of_others_and_numbers_that_were_never_given(self):
        self.started(need=2)
        self.assertEqual(self.loads(), {"a": 2, "b": 2})
        for body in ("busy 2", "busy 4", "busy 5", "busy 999999", "busy 0", self.told(2, "a", T1), self.told(5, "a", T1),
                     self.told(0, "a", T1)):
            self.assertEqual(self.answer("a", body), ("new", "odd"))
        self.assertEqual(self.floor.workers(), (("a", 2, 0), ("b", 2, 0)))
        self.assertIs(self.roster.has_voice(T1, "a"), False)

    def test_bodies_that_are_no_answer(self):
        self.started(workers="a", topics=(T1,))
        mark = self.roster.sign("a", words_of(T1, "made\nx"))
        for body in ("", "\n", "busy", "busy ", "busy\n1", "busy 1\n", "busy 1 ", "busy 1 x", "busy 1\nx", "busy  1", " busy 1", "busy 01",
                     "busy +1", "busy 1.", "busy 0000001", "busy 1000000", "Busy 1", "busy x", "lazy 1", "1", "busy1",
                     f"told 1 {mark}", f"told 01 {mark}\nmade\nx", f"told 0000001 {mark}\nmade\nx", f"told  1 {mark}\nmade\nx",
                     f"told 1  {mark}\nmade\nx", f"told 1 {mark} \nmade\nx", f" told 1 {mark}\nmade\nx", f"told 1 {mark} x\nmade\nx",
                     "told 1  \nmade\nx", "told 1\nmade\nx", "told 1 a 1\nmade\nx", f"told +1 {mark}\nmade\nx", f"told x {mark}\nmade\nx",
                     f"tell 1 {mark}\nmade\nx", f"{mark} 1\nmade\nx", f"told\n1 {mark}\nmade\nx", f"told {mark}\nmade\nx",
                     f"offer 1 {mark}\nmade\nx", f"busy 1 {mark}\nmade\nx", "told 1", f"told 1\n{mark}\nmade\nx", "offer 1\n" + T1,
                     "told 1 ", "told 1  ", "told 1\n", "told 1\n ", "told  \nmade\nx", "told \nmade\nx", " told 1 \nmade\nx",
                     "told 01 \nmade\nx", "told  1 \nmade\nx", "busy 1 \nmade\nx"):
            self.assertEqual(self.answer("a", body), ("new", "odd"), body)
        self.assertEqual(self.floor.workers(), (("a", 1, 0),))
        self.assertIs(self.roster.has_voice(T1, "a"), False)
        # All of them were taken by the link, and the offer is as it was.
        self.assertEqual(self.answer("a", f"told 1 {mark}\nmade\nx"), ("new", "settled"))

    def test_any_claim(self):
        for claim in ("", "\n", "made\n", "made\na\n\nb\n", "busy 1", "x y", "failed\nno"):
            self.started()
            self.assertEqual(self.answer("a", self.told(1, "a", T1, claim)), ("new", "settled"))
            self.assertEqual(self.roster.claim_of(T1), claim)

    def test_any_mark(self):
        self.started()
        for mark in ("", "x", "-", "a-1-1", "\"", "{}", "9" * 100):
            self.assertEqual(self.answer("a", f"told 1 {mark}\n"), ("new", "bad"))

    def test_an_empty_mark(self):
        for claim in ("x", "", "made\nx", "\n", " "):
            self.started()
            self.assertEqual(self.answer("a", f"told 1 \n{claim}"), ("new", "bad"))
            self.assertEqual(self.floor.workers(), (("a", 1, 1), ("b", 0, 0)))
            self.assertEqual(self.floor.jobs(), (T1, T2))
            self.assertIsNone(self.roster.claim_of(T1))
            self.assertIs(self.roster.has_voice(T1, "a"), False)
            self.assertEqual(self.floor.turn(0), ((3, "b", T1),))

    def test_an_empty_mark_for_an_offer_that_is_closed(self):
        self.started()
        self.assertEqual(self.answer("a", "busy 1"), ("new", "busy"))
        self.assertEqual(self.answer("a", "told 1 \nx"), ("new", "bad"))
        self.assertEqual(self.floor.workers(), (("a", 1, 2), ("b", 0, 0)))
        self.floor.drop(T2)
        self.assertEqual(self.answer("a", "told 2 \nx"), ("new", "bad"))
        self.assertEqual(self.floor.workers(), (("a", 0, 3), ("b", 0, 0)))

    def test_an_empty_mark_about_a_settled_topic(self):
        self.started()
        self.assertEqual(self.answer("a", self.told(1, "a", T1)), ("new", "settled"))
        self.assertEqual(self.answer("a", "told 1 \nmade\nx"), ("new", "bad"))
        self.assertEqual(self.answer("a", "told 1 \nmade\ny"), ("new", "bad"))
        self.assertEqual(self.lapses(), {"a": 2, "b": 0})
        self.assertEqual(self.roster.strikes("a"), 0)

    def test_an_empty_mark_for_no_offer_of_the_worker(self):
        self.started(need=2)
        for number in (0, 2, 4, 5, 999999):
            self.assertEqual(self.answer("a", f"told {number} \nx"), ("new", "odd"))
        self.assertEqual(self.floor.workers(), (("a", 2, 0), ("b", 2, 0)))

    def test_numbers_of_six_digits(self):
        # So many offers take long to make, so the bodies are only read here.
        for number in (1, 10, 99999, 100000, 999999):
            self.assertEqual(read_answer(f"busy {number}"), (number, None, None))
            self.assertEqual(read_answer(f"told {number} m\nc"), (number, "m", "c"))
            self.assertEqual(read_answer(f"told {number} \nc"), (number, "", "c"))
        for number in ("1000000", "9999999", "0100000", "000001"):
            self.assertIsNone(read_answer(f"busy {number}"))
            self.assertIsNone(read_answer(f"told {number} m\nc"))
            self.assertIsNone(read_answer(f"told {number} \nc"))

    def test_numbers_of_several_digits(self):
        self.start(lease=1, workers="a")
        self.ask(T1)
        for now in range(123):
            self.floor.turn(now)
            self.hear("a")
            self.floor.take("a", self.links["a"].word())
        self.assertEqual(self.floor.workers(), (("a", 1, 122),))
        self.assertEqual(self.answer("a", "busy 124"), ("new", "odd"))
        self.assertEqual(self.answer("a", "busy 12"), ("new", "busy"))
        self.assertEqual(self.floor.workers(), (("a", 1, 123),))
        self.assertEqual(self.answer("a", self.told(123, "a", T1)), ("new", "settled"))
        self.assertEqual(self.floor.workers(), (("a", 0, 123),))


class PlainFloor:
    """A second floor, which keeps one list of all offers and looks through it."""

    def __init__(self, roster, lease):
        self.roster, self.lease = roster, lease
        self.team, self.topics, self.offers = [], [], []

    def hire(self, worker, house, tools, slots):
        self.team.append({"name": worker, "house": house, "tools": tools, "slots": slots, "lapses": 0,
                          "link": Link("mill", worker)})

    def named(self, name):
        return [worker for worker in self.team if worker["name"] == name][0]

    def standing(self, **wanted):
        return [offer for offer in self.offers if offer["open"] and all(offer[part] == wanted[part] for part in wanted)]

    def close(self, offers, lapse=False):
        for offer in offers:
            offer["open"] = False
            offer["worker"]["lapses"] += lapse

    def ask(self, topic):
        if topic in self.topics or self.roster.claim_of(topic) is not None:
            return False
        self.topics.append(topic)
        return True

    def drop(self, topic):
        if topic not in self.topics:
            return False
        self.topics.remove(topic)
        self.close(self.standing(topic=topic))
        return True

    def fits(self, worker, topic):
        return (not self.roster.is_revoked(worker["house"]) and len(self.standing(worker=worker)) < worker["slots"]
                and topic[:topic.index("\n")] in worker["tools"] and not self.roster.has_voice(topic, worker["house"])
                and not [offer for offer in self.standing(topic=topic) if offer["worker"]["house"] == worker["house"]]
                and worker["link"].can_send())

    def turn(self, now):
        for topic in [topic for topic in self.topics if self.roster.claim_of(topic) is not None]:
            self.drop(topic)
        self.close([offer for offer in self.standing() if offer["time"] <= now - self.lease], lapse=True)
        first = len(self.offers)
        for topic in self.topics:
            while len(self.standing(topic=topic)) < self.roster.need:
                team = [(worker["lapses"], worker["name"]) for worker in self.team if self.fits(worker, topic)]
                if not team:
                    break
                worker = self.named(min(team)[1])
                self.offers.append({"worker": worker, "topic": topic, "time": now, "open": True})
                worker["link"].send(f"offer {len(self.offers)}\n{topic}")
        return tuple([(at + 1, offer["worker"]["name"], offer["topic"]) for at, offer in enumerate(self.offers)][first:])

    def out(self, name):
        link = self.named(name)["link"]
        return link.again() or (link.word(),)

    def take(self, name, packet):
        worker = self.named(name)
        news, body = worker["link"].take(packet)
        if news != "new":
            return (news, None)
        found = re.fullmatch(r"(?s:busy ([1-9]\d{0,5})|told ([1-9]\d{0,5}) ([^ \n]*)\n(.*))", body)
        at = int(found[1] or found[2]) - 1 if found else None
        if at is None or at >= len(self.offers) or self.offers[at]["worker"] is not worker:
            return ("new", "odd")
        offer = self.offers[at]
        offer["open"] = False
        told = "busy" if found[1] else self.roster.tell(offer["topic"], worker["house"], found[4], found[3])
        worker["lapses"] += told in ("bad", "busy")
        return ("new", told)

    def workers(self):
        return tuple(sorted([(worker["name"], len(self.standing(worker=worker)), worker["lapses"]) for worker in self.team]))


class PlainWayTests(unittest.TestCase):
    def setUp(self):
        self.chance = random.Random(43)
        self.choice = self.chance.choice
        self.answers = {}

    def body(self, offers, topics, rosters, worker):
        """Return a body that a worker may send, signed by both rosters alike."""
        numbers = [number for number, name, _ in offers if name == worker] or [1]
        number = self.choice(numbers[-3:] + numbers + [self.chance.randrange(1, 30)])
        kind = self.choice(["busy", "told", "told", "told", "bad", "odd"])
        if kind == "busy":
            return f"busy {number}"
        if kind == "bad":
            mark = self.choice(["", f"{worker[0]}-{self.chance.randrange(1, 40)}"])
            return f"told {number} {mark}\nx"
        if kind == "odd":
            return self.choice(["", f"busy 0{number}", f"told {number}\nx", f"told {number} a b\nx", f"busy {number}\n",
                                f"told {number} ", f"told {number}  \nx"])
        topic = ([about for given, _, about in offers if given == number] or topics)[0]
        claim = self.choice("xxxy")
        if rosters[0].is_revoked(worker[0]):
            return "revoked"
        marks = [roster.sign(worker[0], words_of(topic, claim)) for roster in rosters]
        self.assertEqual(marks[0], marks[1])
        return f"told {number} {marks[0]}\n{claim}"

    def both(self, floors, method, *values):
        """Call a method of both floors; return what both of them return."""
        told = [getattr(floor, method)(*values) for floor in floors]
        self.assertEqual(told[0], told[1], (method, values))
        return told[0]

    def step(self, floors, rosters, links, offers, topics, now):
        kind = self.choice(["turn", "turn", "ask", "ask", "take", "take", "take", "take", "drop", "hear", "hear", "revoke"])
        worker = self.choice(list(links))
        if kind == "turn":
            offers.extend(self.both(floors, "turn", now))
        elif kind in ("ask", "drop"):
            self.both(floors, kind, self.choice(topics))
        elif kind == "hear":
            for packet in self.both(floors, "out", worker):
                links[worker].take(packet)
        elif kind == "take":
            link = links[worker]
            body = self.body(offers, topics, rosters, worker)
            packet = link.send(body) if link.can_send() else link.word()
            told = self.both(floors, "take", worker, packet)
            self.answers[told] = self.answers.get(told, 0) + 1
        elif self.chance.random() < 0.1:
            house = self.choice("abcd")
            if not rosters[0].is_revoked(house):
                for roster in rosters:
                    roster.revoke(house)

    def test_random_deeds(self):
        for run in range(600):
            rosters = [Roster(1 + run % 3) for _ in range(2)]
            for roster in rosters:
                for house in "abcd":
                    roster.add(house)
            lease = self.choice((1, 3, 9))
            floors = [Floor(rosters[0], lease), PlainFloor(rosters[1], lease)]
            links, offers, now = {}, [], 0
            for worker in ("a1", "b1", "b2", "c1", "d1"):
                tools = self.choice((("join",), ("join", "sort"), ("sort",)))
                slots = self.choice((1, 2, 3, 8))
                for floor in floors:
                    floor.hire(worker, worker[0], tools, slots)
                links[worker] = Link(worker, "mill")
            topics = [topic_of(1), topic_of(2), topic_of(1, "sort"), topic_of(3), topic_of(2, "sort")]
            for _ in range(60):
                now += self.choice((0, 0, 1, 2))
                self.step(floors, rosters, links, offers, topics, now)
                self.both(floors, "workers")
                self.assertEqual(floors[0].jobs(), tuple(floors[1].topics))
        told = [("new", word) for word in ("again", "alike", "bad", "busy", "changed", "odd", "otherwise", "settled", "told")]
        self.assertLessEqual(set(told), set(self.answers))
        self.assertGreater(min(self.answers[word] for word in told), 10)


if __name__ == "__main__":
    unittest.main()
