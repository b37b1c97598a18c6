"""The journal: a whole system, and everything that was done with it."""

from truemill.cache import Cache
from truemill.clean import graph_of
from truemill.errors import JournalProblem, MillError
from truemill.floor import Floor
from truemill.mill import Mill
from truemill.roster import Roster
from truemill.store import Store
from truemill.trees import make_tree


class Journal:
    """Does deeds with a store, a roster, a floor, a cache and a mill, and records them."""

    def __init__(self, need, lease, capacity, size):
        self.store = Store(capacity)
        self.roster = Roster(need)
        self.floor = Floor(self.roster, lease)
        self.cache = Cache(size)
        self.mill = Mill(self.store, self.roster, self.floor, self.cache)
        self._time = 0
        self._deeds = []

    def act(self, deed):
        """Do a deed and return its value."""
        value = self._do(deed)
        # A deed that raised an error does not come so far.
        self._deeds.append(deed)
        return value

    def deeds(self):
        """Return the recorded deeds."""
        return tuple(self._deeds)

    def look(self):
        """Return a tuple that tells everything."""
        strikes = [(house, self.roster.strikes(house)) for house in self.roster.houses()]
        states = [(action[0], self.mill.status(action[0])) for action in self.mill.graph()]
        return (
            self._time, self.store.names(), tuple(strikes), self.floor.workers(), self.floor.jobs(),
            self.cache.topics(), self.mill.wanted(), self.mill.asked(), self.mill.accepted_keys(), tuple(states),
        )

    def _do(self, deed):
        """Do a deed of any kind and return its value."""
        match deed:
            case ("put", text):
                return self.store.put(text)
            case ("lose", name):
                return self.store.lose(name)
            case ("add", house):
                return self.roster.add(house)
            case ("sign", house, words):
                return self.roster.sign(house, words)
            case ("revoke", house):
                return self.roster.revoke(house)
            case ("hire", worker, house, tools, slots):
                return self.floor.hire(worker, house, tools, slots)
            case ("lose entry", topic):
                return self.cache.lose(topic)
            case ("spoil", topic, claim):
                return self.cache.spoil(topic, claim)
            case ("want", label):
                return self.mill.want(label)
            case ("sources", entries, flags):
                return self._change_sources(entries, flags)
            case ("turn", by, packets):
                return self._take_turn(by, packets)

    def _change_sources(self, entries, flags):
        """Put the texts of pairs (path, text), have the mill build them, and return their tree."""
        # All that can raise an error comes before the first thing that changes.
        make_tree([(path, 1) for path, _ in entries])
        texts = {path: text for path, text in entries}
        graph = graph_of(texts, {name: value for name, value in flags})
        tree = self.store.put_tree(entries)
        self.mill.sources(graph, tree)
        return tree

    def _take_turn(self, by, packets):
        """Let some time pass, and let the mill take its turn."""
        told = self.mill.turn(self._time + by, packets)
        self._time += by
        return told


def replay(need, lease, capacity, size, deeds):
    """Return a new journal that has done the deeds."""
    journal = Journal(need, lease, capacity, size)
    for position, deed in enumerate(deeds):
        try:
            journal.act(deed)
        except MillError:
            raise JournalProblem(position)
    return journal
