"""The mill: it has wanted targets made by workers that it does not trust."""

from truemill.build import Build
from truemill.cache import look_up
from truemill.errors import BadMessage, FloorProblem, GraphProblem, StoreFull
from truemill.graph import action_of, build_order, closure
from truemill.keys import key_text, read_claim


class Mill:
    """Joins a store, a roster, a floor and a cache to make what is wanted."""

    def __init__(self, store, roster, floor, cache):
        self._store = store
        self._roster = roster
        self._floor = floor
        self._cache = cache
        self._graph = ()
        self._tree = ()
        self._build = Build((), ())
        # Labels and keys in their order, each with True.
        self._wants = {}
        self._asked = {}
        # From accepted keys, in the order of acceptance, to (claim, vouchers, origin).
        self._evidence = {}

    def graph(self):
        """Return the graph of the build."""
        return self._graph

    def tree(self):
        """Return the tree of the build."""
        return self._tree

    def sources(self, graph, tree):
        """Build another graph from another tree."""
        self._graph = graph
        self._tree = tree
        self._build.change(graph, tree)
        self._wants = {label: True for label in self._wants if action_of(graph, label) is not None}

    def want(self, label):
        """Want a target; return whether it was not wanted already."""
        if action_of(self._graph, label) is None:
            raise GraphProblem(label, "unknown")
        if label in self._wants:
            return False
        self._wants[label] = True
        return True

    def wanted(self):
        """Return the labels of the wants, in the order in which they were wanted."""
        return tuple(self._wants)

    def turn(self, now, packets):
        """Take packets, accept what can be, make offers, and end the wants that are done."""
        self._check_workers(packets)
        taken = [self._floor.take(worker, packet) for worker, packet in packets]
        known = len(self._evidence)
        for key in self.asked():
            self._accept_settled(key)
        self._restore_texts()
        while self._accept_orders():
            pass
        self._ask_orders()
        offers = self._floor.turn(now)
        accepted = [(key, self._evidence[key][2]) for key in self.accepted_keys()[known:]]
        return {"taken": tuple(taken), "accepted": tuple(accepted), "offers": offers, "done": self._end_wants()}

    def status(self, label):
        """Return the state of a target."""
        return self._build.status(label)

    def key_of(self, label):
        """Return the key of a target, or None if it has none yet."""
        return self._build.key_of(label)

    def hand(self, label):
        """Return the text of a target that is made."""
        state, name = self.status(label)
        if state != "made":
            raise GraphProblem(label, "not made")
        return self._store.text(name)

    def evidence(self, key):
        """Return (claim, vouchers, origin) of a key that was accepted, or None."""
        return self._evidence.get(key)

    def accepted_keys(self):
        """Return the keys of the evidence, in the order of acceptance."""
        return tuple(self._evidence)

    def asked(self):
        """Return the keys that the floor is asked for, in their order."""
        return tuple(self._asked)

    def _check_workers(self, packets):
        """Raise an error if one of the packets is of an unknown worker."""
        known = [row[0] for row in self._floor.workers()]
        for worker, _ in packets:
            if worker not in known:
                raise FloorProblem("unknown worker")

    def _accept_settled(self, key):
        """Accept the claim about a key that the roster has settled, if there is one."""
        topic = key_text(key)
        claim = self._roster.claim_of(topic)
        if claim is None:
            return
        vouchers = self._roster.vouchers(topic)
        if self._accept(key, claim, vouchers, "floor"):
            self._cache.put(topic, claim, vouchers)

    def _accept(self, key, claim, vouchers, origin):
        """Accept a claim for a key, unless the store has no room for it; return whether it had."""
        try:
            result = self._keep(claim)
        except StoreFull:
            return False
        self._build.tell(key, result)
        self._evidence[key] = (claim, vouchers, origin)
        self._ask_no_more(key)
        return True

    def _keep(self, claim):
        """Put the text of a claim into the store, if it has one; return the result of the claim."""
        try:
            kind, told = read_claim(claim)
        except BadMessage:
            return ("failed", "bad claim")
        if kind == "made":
            return (kind, self._store.put(told))
        return (kind, told)

    def _ask_no_more(self, key):
        """Ask the floor no more for a key."""
        self._asked.pop(key, None)
        self._floor.drop(key_text(key))

    def _restore_texts(self):
        """Put the made texts that the wants need and the store has lost into it again."""
        for label in build_order(closure(self._graph, self.wanted())):
            state, name = self.status(label)
            if state == "made" and not self._store.has(name):
                claim = self._evidence[self.key_of(label)][0]
                try:
                    self._keep(claim)
                except StoreFull:
                    # A text that is left out now has its next chance in the next turn.
                    pass

    def _accept_orders(self):
        """Go once through the orders of the wants; return whether anything was accepted."""
        known = len(self._evidence)
        for key in self._build.orders(self.wanted()):
            found = look_up([self._cache], self._roster, key_text(key))
            if found is None:
                self._accept_settled(key)
            else:
                claim, vouchers = found
                self._accept(key, claim, vouchers, "cache")
        return len(self._evidence) > known

    def _ask_orders(self):
        """Ask the floor for the orders of the wants, and for nothing else."""
        orders = self._build.orders(self.wanted())
        for key in self.asked():
            if key not in orders:
                self._ask_no_more(key)
        for key in orders:
            if key not in self._asked:
                self._asked[key] = True
                self._floor.ask(key_text(key))

    def _end_wants(self):
        """Return the pairs (label, status) of the wants that are done, and want these no more."""
        done = []
        for label in self.wanted():
            status = self.status(label)
            if status[0] == "failed" or (status[0] == "made" and self._store.has(status[1])):
                done.append((label, status))
                del self._wants[label]
        return tuple(done)
