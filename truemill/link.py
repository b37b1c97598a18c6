"""Links: the ends of connections that lose, repeat and reorder packets."""

from truemill.errors import NoCredit
from truemill.numerals import is_numeral

MOST_KEPT = 8
MOST_SENT = 9999
MOST_DIGITS = 4


class Link:
    """The end of `me` of a connection to `other`."""

    def __init__(self, me, other):
        self.me = me
        self.other = other
        self._sent = 0
        self._acknowledged = 0
        self._taken = 0
        # From the numbers of the bodies that are not acknowledged to the bodies, ascending.
        self._kept = {}

    def send(self, body):
        """Send the next body: keep it and return its packet."""
        if not self.can_send():
            raise NoCredit()
        self._sent += 1
        self._kept[self._sent] = body
        return self._packet(self._sent, body)

    def again(self):
        """Return the packets of all bodies that are kept."""
        return tuple([self._packet(number, body) for number, body in self._kept.items()])

    def word(self):
        """Return the packet that carries no body, but tells how many were taken."""
        return self._packet(0, "")

    def state(self):
        """Return how many bodies were sent, how many of these acknowledged, and how many taken."""
        return (self._sent, self._acknowledged, self._taken)

    def can_send(self):
        """Whether another body can be sent now."""
        return len(self._kept) < MOST_KEPT and self._sent < MOST_SENT

    def take(self, packet):
        """Take a packet; return the news about it, and its body if that is the next one."""
        parts = read_packet(packet, self.other, self.me)
        if parts is None:
            return ("odd", None)
        number, ack, body = parts
        if ack > self._sent:
            return ("odd", None)
        self._drop(ack)
        if number == 0:
            return ("bare", None)
        if number <= self._taken:
            return ("old", None)
        if number > self._taken + 1:
            return ("early", None)
        self._taken = number
        return ("new", body)

    def _packet(self, number, body):
        """Return a packet with the present acknowledgement."""
        return f"{self.me} {self.other} {number} {self._taken}\n{body}"

    def _drop(self, ack):
        """Keep the bodies no more that the other end has taken."""
        # A packet that comes late can acknowledge less than an earlier one did.
        self._acknowledged = max(self._acknowledged, ack)
        self._kept = {number: body for number, body in self._kept.items() if number > ack}


def read_packet(packet, sender, taker):
    """Return (number, ack, body) of a packet from one end to another; None if it is no such packet."""
    head, newline, body = packet.partition("\n")
    parts = head.split(" ")
    if newline == "" or len(parts) != 4 or parts[:2] != [sender, taker]:
        return None
    if not is_numeral(parts[2], MOST_DIGITS) or not is_numeral(parts[3], MOST_DIGITS):
        return None
    if parts[2] == "0" and body != "":
        return None
    return (int(parts[2]), int(parts[3]), body)
