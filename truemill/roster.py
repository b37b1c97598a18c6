"""The roster: the houses, their signatures, and what they told about topics."""

from truemill.errors import RosterProblem

MOST_HOUSES = 20


def words_of(topic, claim):
    """Return the words that a house signs to support a claim about a topic."""
    return f"{len(topic)}:{topic}{claim}"


class Roster:
    """Knows houses, and settles a claim about a topic when `need` of them agree on it."""

    def __init__(self, need):
        self.need = need
        # From the houses, in the order in which they were added, to whether they are revoked.
        self._houses = {}
        self._strikes = {}
        # From the marks of all signatures to (house, words).
        self._signed = {}
        # From topics to dicts from houses to (claim, mark), in the order of the voices.
        self._voices = {}
        # From the topics that are settled to their claims.
        self._claims = {}

    def add(self, house):
        """Add a house."""
        if house in self._houses:
            raise RosterProblem("duplicate")
        if len(self._houses) == MOST_HOUSES:
            raise RosterProblem("full")
        self._houses[house] = False
        self._strikes[house] = 0

    def houses(self):
        """Return the houses in the order in which they were added."""
        return tuple(self._houses)

    def sign(self, house, words):
        """Sign words for a house and return the mark."""
        self._check(house)
        mark = f"{house}-{len(self._signed) + 1}"
        self._signed[mark] = (house, words)
        return mark

    def revoke(self, house):
        """Revoke a house: its marks count no more."""
        self._check(house)
        self._houses[house] = True

    def is_revoked(self, house):
        """Whether a house is revoked; an unknown one is not."""
        return self._houses.get(house, False)

    def counts(self, mark, house, words):
        """Whether a house that is not revoked signed the words with the mark."""
        return self._signed.get(mark) == (house, words) and not self.is_revoked(house)

    def tell(self, topic, house, claim, mark):
        """Record the voice of a house about a topic; return a word for what came of it."""
        if not self.counts(mark, house, words_of(topic, claim)):
            return "bad"
        if self.has_voice(topic, house):
            return self._tell_again(topic, house, claim)
        settled = self.claim_of(topic)
        voices = self._voices.setdefault(topic, {})
        voices[house] = (claim, mark)
        if settled is not None and settled != claim:
            self._strikes[house] += 1
            return "otherwise"
        if settled is not None:
            return "alike"
        if len(self._supporters(topic, claim)) < self.need:
            return "told"
        self._settle(topic, claim)
        return "settled"

    def claim_of(self, topic):
        """Return the claim with which a topic is settled, or None."""
        return self._claims.get(topic)

    def has_voice(self, topic, house):
        """Whether a house has a voice about a topic."""
        return house in self._voices.get(topic, {})

    def vouchers(self, topic):
        """Return the pairs (house, mark) of the voices for the claim that settled a topic."""
        if topic not in self._claims:
            return ()
        settled = self._claims[topic]
        voices = self._voices[topic]
        return tuple([(house, mark) for house, (claim, mark) in voices.items() if claim == settled])

    def strikes(self, house):
        """Return the number of strikes of a house."""
        if house not in self._houses:
            raise RosterProblem("unknown")
        return self._strikes[house]

    def _check(self, house):
        """Raise an error if a house cannot sign."""
        if house not in self._houses:
            raise RosterProblem("unknown")
        if self._houses[house]:
            raise RosterProblem("revoked")

    def _tell_again(self, topic, house, claim):
        """Take note of what a house tells that has a voice about the topic already."""
        if self._voices[topic][house][0] == claim:
            return "again"
        self._strikes[house] += 1
        return "changed"

    def _supporters(self, topic, claim):
        """Return the houses with a voice for a claim about a topic that are not revoked."""
        voices = self._voices[topic]
        return [house for house in voices if voices[house][0] == claim and not self.is_revoked(house)]

    def _settle(self, topic, claim):
        """Settle a topic with a claim; each house that told another one gets a strike."""
        self._claims[topic] = claim
        voices = self._voices[topic]
        for house in voices:
            if voices[house][0] != claim:
                self._strikes[house] += 1
