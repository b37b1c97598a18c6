"""Vouchers: pairs (house, mark) that stand for a claim about a topic, whoever brings them."""

from truemill.roster import words_of


def good_vouchers(roster, topic, claim, vouchers):
    """Return those vouchers, in their order, whose marks count for the claim."""
    words = words_of(topic, claim)
    return tuple([(house, mark) for house, mark in vouchers if roster.counts(mark, house, words)])


def are_enough(roster, vouchers):
    """Whether vouchers that are good are of as many houses as must agree."""
    # A house counts once, however often it signed.
    return len(set([house for house, _ in vouchers])) >= roster.need
