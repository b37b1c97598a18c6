"""Caches: they keep claims with their vouchers, and may lose or change them."""

from truemill.vouchers import are_enough, good_vouchers


class Cache:
    """Keeps the claims of at most `size` topics."""

    def __init__(self, size):
        self.size = size
        # From topics to (claim, vouchers), from the oldest to the newest.
        self._entries = {}

    def put(self, topic, claim, vouchers):
        """Keep an entry as the newest one; return the topic that had to go for it, or None."""
        self._entries.pop(topic, None)
        self._entries[topic] = (claim, tuple(vouchers))
        if len(self._entries) <= self.size:
            return None
        oldest = self.topics()[0]
        del self._entries[oldest]
        return oldest

    def entry(self, topic):
        """Return (claim, vouchers) of a topic, or None."""
        return self._entries.get(topic)

    def lose(self, topic):
        """Remove an entry; return whether there was one."""
        return self._entries.pop(topic, None) is not None

    def spoil(self, topic, claim):
        """Replace the claim of an entry, as a faulty cache does; return whether there was one."""
        if topic not in self._entries:
            return False
        vouchers = self._entries[topic][1]
        self._entries[topic] = (claim, vouchers)
        return True

    def topics(self):
        """Return the topics from the oldest to the newest."""
        return tuple(self._entries)


def good_claim(cache, roster, topic):
    """Return the claim of a topic's entry if enough houses vouch for it, and otherwise None."""
    found = look_up([cache], roster, topic)
    return None if found is None else found[0]


def look_up(caches, roster, topic):
    """Return (claim, vouchers that count) of the first cache with a good claim, or None."""
    for cache in caches:
        entry = cache.entry(topic)
        if entry is not None:
            claim, vouchers = entry
            good = good_vouchers(roster, topic, claim, vouchers)
            if are_enough(roster, good):
                return (claim, good)
    return None
