"""Workers of houses for the tests: honest ones, and such that lie, sleep or send nonsense."""

from truemill.errors import RosterProblem
from truemill.keys import claim_text, read_key
from truemill.link import Link
from truemill.roster import words_of
from truemill.tools import run_tool


def true_claim(key, texts):
    """Return the claim of what the tool of a key makes; `texts` is a dict from names to texts."""
    tool, args, names = key
    return claim_text(run_tool(tool, args, tuple([texts[name] for name in names])))


class Hand:
    """A worker at its own end of the link to the floor."""

    def __init__(self, name, house):
        self.name = name
        self.house = house
        self.link = Link(name, "mill")
        # Pairs (number, topic) of the offers that are not answered yet.
        self.offers = []

    def hear(self, packet):
        """Take a packet of the floor."""
        news, body = self.link.take(packet)
        if news == "new":
            head, _, topic = body.partition("\n")
            self.offers.append((int(head.split(" ")[1]), topic))

    def tell(self, sign, number, topic, claim):
        """Return the packet with a claim about the topic of an offer, signed by the house."""
        return self.link.send(f"told {number} {sign(self.house, words_of(topic, claim))}\n{claim}")

    def busy(self, number):
        """Return the packet that refuses an offer."""
        return self.link.send(f"busy {number}")

    def answer_all(self, sign, texts):
        """Return the packets with true answers to all offers."""
        packets = []
        for number, topic in self.offers:
            packets.append((self.name, self.tell(sign, number, topic, true_claim(read_key(topic), texts))))
        self.offers = []
        return packets


class Crew:
    """All workers of a floor, and the wires to them, which lose, repeat and reorder packets."""

    def __init__(self, floor, sign, chance, loss=0.3):
        self.floor = floor
        self.sign = sign
        self.chance = chance
        self.loss = loss
        # From workers to pairs of a hand and the way in which it answers.
        self.hands = {}
        self.wire = []
        # From names to texts, as far as they were seen.
        self.texts = {}

    def add(self, worker, house, way):
        self.hands[worker] = (Hand(worker, house), way)

    def learn(self, store):
        """Look at all texts that are here."""
        for name in store.names():
            self.texts[name] = store.text(name)

    def packets(self):
        """Bring packets to all workers, and return pairs (worker, packet) with what came back."""
        for worker, (hand, way) in self.hands.items():
            for packet in self.floor.out(worker):
                for _ in range(self.chance.choice((0, 1, 1, 2)) if self.loss else 1):
                    hand.hear(packet)
            self.wire += self.answers(hand, way)
            self.wire += [(worker, packet) for packet in hand.link.again() or (hand.link.word(),)]
        if not self.loss:
            arrived, self.wire = self.wire, []
            return arrived
        self.chance.shuffle(self.wire)
        arrived = [pair for pair in self.wire if self.chance.random() > self.loss]
        # Some of what came will come once more, much later.
        self.wire = self.wire[:8]
        return arrived

    def answers(self, hand, way):
        """Return the pairs (worker, packet) with the answers that a worker gives now."""
        packets = []
        for number, topic in list(hand.offers):
            if not hand.link.can_send() or way == "silent" or (way == "late" and self.chance.random() < 0.8):
                continue
            hand.offers.remove((number, topic))
            if way == "busy" and self.chance.random() < 0.7:
                packets.append(hand.busy(number))
            else:
                packets.append(self.told(hand, way, number, topic))
        return [(hand.name, packet) for packet in packets]

    def told(self, hand, way, number, topic):
        """Return the packet of a worker that tells something."""
        if way == "nonsense":
            bodies = (f"told {number} x\nmade\n", f"told {number} \nmade\n", f"told 0{number} x\n", "",
                      f"told {number + 1} {hand.house}-1\nmade\nx", "busy 1")
            return hand.link.send(self.chance.choice(bodies))
        claim = true_claim(read_key(topic), self.texts)
        if way == "lie" or (way == "sly" and len(topic) % 3 == 0):
            # A sly worker lies about some topics alone. All tell the same lies, which enough of them would make true.
            claim = ("made\nlie", "failed\nlie", "none", "made\n" + topic)[len(topic) * 7 % 4]
        try:
            return hand.tell(self.sign, number, topic, claim)
        except RosterProblem:
            return hand.busy(number)
