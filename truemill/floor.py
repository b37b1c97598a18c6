"""The floor: it offers jobs to the workers of several houses and takes their answers."""

from truemill.errors import FloorProblem
from truemill.link import Link
from truemill.numerals import is_numeral

OWN_END = "mill"
MOST_WORKERS = 20
MOST_DIGITS = 6


class Worker:
    """A worker of a house: what it may be offered, and the floor's end of the link to it."""

    def __init__(self, name, house, tools, slots):
        self.name = name
        self.house = house
        self.tools = tools
        self.slots = slots
        self.link = Link(OWN_END, name)
        self.lapses = 0


class Offer:
    """What was offered to a worker, and at what time."""

    def __init__(self, worker, topic, time):
        self.worker = worker
        self.topic = topic
        self.time = time


class Floor:
    """Offers each job until as many workers have it as houses must agree."""

    def __init__(self, roster, lease):
        self._roster = roster
        self._lease = lease
        # From names to workers.
        self._workers = {}
        # The topics of the jobs, in the order in which they were asked, each with True.
        self._jobs = {}
        # From the numbers of all offers to the offers.
        self._offers = {}
        # The same, of those that are open alone.
        self._opened = {}

    def hire(self, worker, house, tools, slots):
        """Add a worker of a house."""
        if worker in self._workers:
            raise FloorProblem("duplicate")
        if house not in self._roster.houses():
            raise FloorProblem("unknown house")
        if len(self._workers) == MOST_WORKERS:
            raise FloorProblem("full")
        self._workers[worker] = Worker(worker, house, tools, slots)

    def ask(self, topic):
        """Add a job; return whether there was something to add."""
        if topic in self._jobs or self._roster.claim_of(topic) is not None:
            return False
        self._jobs[topic] = True
        return True

    def drop(self, topic):
        """Remove a job with its open offers; return whether it was one."""
        if topic not in self._jobs:
            return False
        del self._jobs[topic]
        for number in list(self._opened):
            if self._opened[number].topic == topic:
                del self._opened[number]
        return True

    def jobs(self):
        """Return the topics of the jobs, in the order in which they were asked."""
        return tuple(self._jobs)

    def turn(self, now):
        """End what is settled or late, make the offers that are due, and return these."""
        for topic in self.jobs():
            if self._roster.claim_of(topic) is not None:
                self.drop(topic)
        self._end_late(now)
        made = []
        for topic in self.jobs():
            made.extend(self._offer_job(topic, now))
        return tuple(made)

    def out(self, worker):
        """Return the packets that are to go to a worker."""
        link = self._hired(worker).link
        packets = link.again()
        return packets if len(packets) > 0 else (link.word(),)

    def take(self, worker, packet):
        """Take a packet of a worker; return the news of its link, and what came of its body."""
        hired = self._hired(worker)
        news, body = hired.link.take(packet)
        if news != "new":
            return (news, None)
        told = self._take_answer(hired, read_answer(body))
        if told in ("busy", "bad"):
            hired.lapses += 1
        return ("new", told)

    def workers(self):
        """Return (worker, number of open offers, number of lapses) of each worker, ascending."""
        ascending = [self._workers[name] for name in sorted(self._workers)]
        return tuple([(worker.name, self._load(worker), worker.lapses) for worker in ascending])

    def _hired(self, worker):
        """Return the worker with a name."""
        if worker not in self._workers:
            raise FloorProblem("unknown worker")
        return self._workers[worker]

    def _take_answer(self, hired, answer):
        """Take an answer of a worker, or None for a body that is none; return what came of it."""
        if answer is None:
            return "odd"
        number, mark, claim = answer
        if number not in self._offers or self._offers[number].worker.name != hired.name:
            return "odd"
        self._opened.pop(number, None)
        if mark is None:
            return "busy"
        return self._roster.tell(self._offers[number].topic, hired.house, claim, mark)

    def _load(self, worker):
        """Return the number of open offers of a worker."""
        return len([offer for offer in self._opened.values() if offer.worker.name == worker.name])

    def _end_late(self, now):
        """Close the offers whose lease has ended; their workers have let them lapse."""
        for number, offer in list(self._opened.items()):
            if offer.time <= now - self._lease:
                del self._opened[number]
                late = offer.worker
                late.lapses += 1

    def _offer_job(self, topic, now):
        """Make the offers that a job still needs, as far as workers fit; return them as tuples."""
        made = []
        houses = [offer.worker.house for offer in self._opened.values() if offer.topic == topic]
        while len(houses) < self._roster.need:
            fitting = [worker for worker in self._workers.values() if self._fits(worker, topic, houses)]
            if fitting == []:
                break
            best = min(fitting, key=lambda hired: (hired.lapses, hired.name))
            made.append(self._offer(best, topic, now))
            houses.append(best.house)
        return made

    def _fits(self, worker, topic, houses):
        """Whether a worker can get an offer for a topic that some houses have open offers for."""
        house = worker.house
        if self._roster.is_revoked(house) or self._roster.has_voice(topic, house) or house in houses:
            return False
        tool = topic.split("\n")[0]
        return tool in worker.tools and self._load(worker) < worker.slots and worker.link.can_send()

    def _offer(self, worker, topic, now):
        """Offer a topic to a worker; return the offer as a tuple."""
        number = len(self._offers) + 1
        self._offers[number] = Offer(worker, topic, now)
        self._opened[number] = self._offers[number]
        worker.link.send(f"offer {number}\n{topic}")
        return (number, worker.name, topic)


def read_answer(body):
    """Return (number, mark, claim) of an answer, without mark and claim if it is busy; None for no answer."""
    head, newline, claim = body.partition("\n")
    parts = head.split(" ")
    if len(parts) < 2 or not is_numeral(parts[1], MOST_DIGITS):
        return None
    if parts[0] == "busy" and len(parts) == 2 and newline == "":
        return (int(parts[1]), None, None)
    # The third part may be empty: the empty text is a mark, too, though one that never counts.
    if parts[0] == "told" and len(parts) == 3 and newline == "\n":
        return (int(parts[1]), parts[2], claim)
    return None
