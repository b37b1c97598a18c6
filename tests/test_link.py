"""Points 38 to 40: links, which lose, repeat and reorder packets."""

import random
import re
import unittest

from truemill.errors import NoCredit
from truemill.link import Link


def ends(sent=0, taken=0):
    """Return the end `a` of a link to `b` that has sent and taken so many bodies, none acknowledged."""
    link = Link("a", "b")
    for number in range(taken):
        link.take(f"b a {number + 1} 0\n")
    for number in range(sent):
        link.send(f"body {number + 1}")
    return link


def numbers(packets):
    """Return the numbers of packets."""
    return [int(packet.split(" ")[2]) for packet in packets]


def look(link):
    """Return all that a link tells."""
    return (link.state(), link.again(), link.word(), link.can_send())


class PacketTests(unittest.TestCase):
    def test_the_packets_of_each_end(self):
        self.assertEqual(Link("mill", "w-1").send("x"), "mill w-1 1 0\nx")
        self.assertEqual(Link("w-1", "mill").send("x"), "w-1 mill 1 0\nx")

    def test_any_body(self):
        link = Link("a", "b")
        bodies = ("", "\n", " ", "one\ntwo\n", " a b 1 0\n", "~")
        packets = [link.send(body) for body in bodies]
        self.assertEqual(packets, [f"a b {at + 1} 0\n{body}" for at, body in enumerate(bodies)])
        self.assertEqual(link.again(), tuple(packets))
        other = Link("b", "a")
        self.assertEqual([other.take(packet) for packet in packets], [("new", body) for body in bodies])

    def test_the_number_0_carries_no_body(self):
        link = Link("a", "b")
        self.assertEqual(link.word(), "a b 0 0\n")
        link.send("x")
        self.assertEqual(link.word(), "a b 0 0\n")
        self.assertEqual(Link("b", "a").take("a b 0 0\n"), ("bare", None))
        for body in ("x", "\n", " "):
            self.assertEqual(Link("b", "a").take("a b 0 0\n" + body), ("odd", None))

    def test_ack_is_the_number_of_bodies_that_were_taken(self):
        link = Link("a", "b")
        for taken in range(12):
            self.assertEqual(link.word(), f"a b 0 {taken}\n")
            self.assertEqual(link.state(), (0, 0, taken))
            self.assertEqual(link.take(f"b a {taken + 1} 0\nx"), ("new", "x"))
        self.assertEqual(link.send("y"), "a b 1 12\ny")


class SendTests(unittest.TestCase):
    def test_a_new_link(self):
        self.assertEqual(look(Link("a", "b")), ((0, 0, 0), (), "a b 0 0\n", True))

    def test_numbers_from_1_on(self):
        link = Link("a", "b")
        for number in range(1, 9):
            self.assertIs(link.can_send(), True)
            self.assertEqual(link.send(f"x{number}"), f"a b {number} 0\nx{number}")
            self.assertEqual(link.state(), (number, 0, 0))
        self.assertEqual(link.again(), tuple([f"a b {number} 0\nx{number}" for number in range(1, 9)]))

    def test_the_ninth_body(self):
        link = ends(8, 3)
        before = look(link)
        self.assertIs(link.can_send(), False)
        for _ in range(2):
            with self.assertRaises(NoCredit):
                link.send("x")
            self.assertEqual(look(link), before)
        link.take("b a 0 1\n")
        self.assertIs(link.can_send(), True)
        self.assertEqual(link.send("x"), "a b 9 3\nx")
        self.assertIs(link.can_send(), False)
        with self.assertRaises(NoCredit):
            link.send("y")
        self.assertEqual(link.state(), (9, 1, 3))

    def test_bodies_that_are_acknowledged_one_by_one(self):
        link = ends(8)
        for ack in range(1, 9):
            self.assertEqual(link.take(f"b a 0 {ack}\n"), ("bare", None))
            self.assertEqual(link.state(), (8, ack, 0))
            self.assertEqual(numbers(link.again()), list(range(ack + 1, 9)))
            self.assertIs(link.can_send(), True)

    def test_bodies_that_are_acknowledged_at_once(self):
        for first, second in ((3, 7), (2, 8), (8, 8), (0, 5)):
            link = ends(8)
            for ack in (first, second):
                link.take(f"b a 0 {ack}\n")
                self.assertEqual(link.state(), (8, ack, 0))
                self.assertEqual(link.again(), tuple([f"a b {number} 0\nbody {number}" for number in range(ack + 1, 9)]))
                self.assertIs(link.can_send(), ack > 0)
        self.assertEqual(numbers([link.send("x") for _ in range(5)]), [9, 10, 11, 12, 13])

    def test_the_present_ack(self):
        link = ends(2)
        self.assertEqual(link.again(), ("a b 1 0\nbody 1", "a b 2 0\nbody 2"))
        link.take("b a 1 0\nx")
        self.assertEqual(link.again(), ("a b 1 1\nbody 1", "a b 2 1\nbody 2"))
        link.take("b a 2 1\n")
        self.assertEqual(link.again(), ("a b 2 2\nbody 2",))
        self.assertEqual(link.word(), "a b 0 2\n")
        self.assertEqual(link.send("z"), "a b 3 2\nz")

    def test_again_and_word_change_nothing(self):
        link = ends(3, 1)
        before = look(link)
        for _ in range(3):
            self.assertEqual(look(link), before)

    def test_9999_bodies(self):
        link = Link("a", "b")
        for number in range(1, 9999):
            link.send("x")
            link.take(f"b a 0 {number}\n")
        self.assertIs(link.can_send(), True)
        self.assertEqual(link.send("last"), "a b 9999 0\nlast")
        for ack, kept in ((9998, ("a b 9999 0\nlast",)), (9999, ())):
            link.take(f"b a 0 {ack}\n")
            self.assertEqual(look(link), ((9999, ack, 0), kept, "a b 0 0\n", False))
            with self.assertRaises(NoCredit):
                link.send("more")
            self.assertEqual(look(link), ((9999, ack, 0), kept, "a b 0 0\n", False))

    def test_9999_bodies_that_are_taken(self):
        link = Link("a", "b")
        for number in range(1, 10000):
            self.assertEqual(link.take(f"b a {number} 0\n{number}"), ("new", str(number)))
        self.assertEqual(link.state(), (0, 0, 9999))
        self.assertEqual(link.word(), "a b 0 9999\n")
        self.assertEqual(link.take("b a 9999 0\n9999"), ("old", None))
        self.assertEqual(link.take("b a 10000 0\nx"), ("odd", None))


class TakeTests(unittest.TestCase):
    # What is taken when two bodies were, with the news.
    PACKETS = (("b a 3 {}\nx y\n", "new", "x y\n", 3), ("b a 3 {}\n", "new", "", 3), ("b a 2 {}\nx", "old", None, 2),
               ("b a 1 {}\n", "old", None, 2), ("b a 4 {}\nx", "early", None, 2), ("b a 9999 {}\n", "early", None, 2),
               ("b a 0 {}\n", "bare", None, 2))

    def test_the_news_with_each_ack(self):
        for packet, news, body, taken in self.PACKETS:
            for ack in range(6):
                link = ends(5, 2)
                self.assertEqual(link.take(packet.format(ack)), (news, body))
                self.assertEqual(link.state(), (5, ack, taken))
                self.assertEqual(link.again(), tuple([f"a b {n} {taken}\nbody {n}" for n in range(ack + 1, 6)]))

    def test_an_ack_of_more_than_was_sent(self):
        for sent in (0, 1, 5):
            for packet, _, _, _ in self.PACKETS:
                for ack in (sent + 1, sent + 2, 9999):
                    link = ends(sent, 2)
                    before = look(link)
                    self.assertEqual(link.take(packet.format(ack)), ("odd", None))
                    self.assertEqual(look(link), before)

    def test_an_ack_that_is_smaller_than_an_earlier_one(self):
        for packet, news, body, taken in self.PACKETS:
            for ack in (0, 1, 2, 3):
                link = ends(5, 2)
                link.take("b a 0 3\n")
                self.assertEqual(link.take(packet.format(ack)), (news, body))
                self.assertEqual(link.state(), (5, 3, taken))
                self.assertEqual(numbers(link.again()), [4, 5])

    def test_a_body_that_comes_again(self):
        link = Link("a", "b")
        self.assertEqual(link.take("b a 1 0\nx"), ("new", "x"))
        for body in ("x", "y"):
            self.assertEqual(link.take("b a 1 0\n" + body), ("old", None))
        self.assertEqual(link.take("b a 3 0\nz"), ("early", None))
        self.assertEqual(link.take("b a 2 0\ny"), ("new", "y"))
        self.assertEqual(link.take("b a 3 0\nz"), ("new", "z"))
        self.assertEqual(link.state(), (0, 0, 3))

    def odd(self, packet, link=None):
        """Check that a packet is odd, and that it changes nothing."""
        link = link or ends(3, 2)
        before = look(link)
        self.assertEqual(link.take(packet), ("odd", None), packet)
        self.assertEqual(look(link), before)

    def test_packets_of_others(self):
        for head in ("c a", "b c", "a b", "a a", "b b", "ba a", "b aa", "A a", "", " a", "b "):
            self.odd(head + " 3 1\nx")

    def test_ends_with_names_that_begin_alike(self):
        link = Link("a", "a.b")
        self.assertEqual(link.send("x"), "a a.b 1 0\nx")
        self.odd("a a 1 0\nx", link)
        self.odd("a.b a.b 1 0\nx", link)
        self.assertEqual(link.take("a.b a 1 1\nx"), ("new", "x"))

    def test_the_form(self):
        for packet in ("", "\n", "b", "b a 3 1", "b a 3 1 x", "b a\n3 1\nx", "b a 3\n", "b a 3\nx", "b a 3 1 1\nx", "b a  3 1\nx",
                       "b  a 3 1\nx", "b a 3  1\nx", " b a 3 1\nx", "b a 3 1 \nx", "b a 3 \nx", "\nb a 3 1\nx", "b,a,3,1\nx",
                       "b a 3 1x"):
            self.odd(packet)

    def test_numbers(self):
        for number in ("03", "003", "+3", "-3", "3.", "x", "", "3x", "0x3", "00", "1_0", "10000", "99999", "3 ", "1e1", "-0", "+0"):
            self.odd(f"b a {number} 1\n")
            self.odd(f"b a {number} 1\nx")

    def test_acks(self):
        for ack in ("01", "001", "+1", "-1", "1.", "x", "", "1x", "00", "0_1", "10000", "9" * 5000, "-0"):
            self.odd(f"b a 3 {ack}\nx")
            self.odd(f"b a 0 {ack}\n")

    def test_the_greatest_number(self):
        link = ends(3, 2)
        self.assertEqual(link.take("b a 9999 1\nx"), ("early", None))
        self.assertEqual(link.state(), (3, 1, 2))
        self.odd("b a 10000 1\nx")
        self.odd("b a 3 9999\nx")
        self.odd("b a 3 10000\nx")


class PlainLink:
    """A second link, which keeps lists and reads packets by a pattern."""

    def __init__(self):
        self.bodies = []
        self.acknowledged = 0
        self.taken = 0

    def send(self, body):
        if len(self.bodies) - self.acknowledged == 8:
            return None
        self.bodies.append(body)
        return f"a b {len(self.bodies)} {self.taken}\n{body}"

    def take(self, packet):
        found = re.fullmatch(r"b a (0|[1-9][0-9]{0,3}) (0|[1-9][0-9]{0,3})\n((?s:.)*)", packet)
        if not found or int(found[2]) > len(self.bodies) or found[1] == "0" and found[3]:
            return ("odd", None)
        self.acknowledged = max(self.acknowledged, int(found[2]))
        number = int(found[1])
        if number == 0:
            return ("bare", None)
        if number == self.taken + 1:
            self.taken += 1
            return ("new", packet.split("\n", 1)[1])
        return ("early", None) if number > self.taken else ("old", None)

    def look(self):
        kept = range(self.acknowledged, len(self.bodies))
        return ((len(self.bodies), self.acknowledged, self.taken),
                tuple([f"a b {at + 1} {self.taken}\n{self.bodies[at]}" for at in kept]), f"a b 0 {self.taken}\n",
                len(kept) < 8)


class PlainWayTests(unittest.TestCase):
    def test_random_packets(self):
        choice = random.Random(40).choice
        seen = {}
        for _ in range(300):
            link, plain = Link("a", "b"), PlainLink()
            for _ in range(60):
                if choice((True, False)):
                    body = choice(("", "x", "x\ny", "a b 1 0\n"))
                    if link.can_send():
                        self.assertEqual(link.send(body), plain.send(body))
                    else:
                        self.assertRaises(NoCredit, link.send, body)
                        self.assertIsNone(plain.send(body))
                else:
                    sent, acknowledged, taken = link.state()
                    number = choice((taken + 1, taken + 1, taken, taken + 2, 1, 0, 9999, 10000, "01"))
                    ack = choice((sent, acknowledged, acknowledged + 1, acknowledged + 1, 0, sent + 1, "+1"))
                    packet = f"b a {number} {ack}\n" + choice(("", "", "x", "y\n"))
                    packet = choice((packet,) * 20 + (packet.replace("b", "c"), packet.replace("\n", ""), packet.replace(" ", "  ")))
                    told = link.take(packet)
                    self.assertEqual(told, plain.take(packet), packet)
                    seen[told[0]] = seen.get(told[0], 0) + 1
                self.assertEqual(look(link), plain.look())
        self.assertEqual(sorted(seen), ["bare", "early", "new", "odd", "old"])
        self.assertGreater(min(seen.values()), 300)


class LossTests(unittest.TestCase):
    def test_every_body_arrives_once_and_in_order(self):
        chance = random.Random(38)
        for _ in range(20):
            links = {"a": Link("a", "b"), "b": Link("b", "a")}
            left = {name: [f"{name} {at}\n" for at in range(30)] for name in links}
            meant, came, wire = {name: list(left[name]) for name in links}, {"a": [], "b": []}, []
            while len(came["a"]) < 30 or len(came["b"]) < 30:
                name = chance.choice("ab")
                if left[name] and links[name].can_send():
                    wire.append(links[name].send(left[name].pop(0)))
                wire += links[name].again() or (links[name].word(),)
                chance.shuffle(wire)
                # Some packets are lost, some come now, and some of these come again later.
                for packet in wire[:6]:
                    if chance.random() < 0.6:
                        taker = packet.split(" ")[1]
                        news, body = links[taker].take(packet)
                        self.assertNotEqual(news, "odd")
                        came[taker] += [body] if news == "new" else []
                wire = wire[chance.choice((3, 6)):][:40]
            self.assertEqual((came["b"], came["a"]), (meant["a"], meant["b"]))


if __name__ == "__main__":
    unittest.main()
