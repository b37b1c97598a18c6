"""The store: texts under names that are given for ever."""

from truemill.errors import BadText, Missing, NotPinned, StoreFull
from truemill.trees import make_tree

LONGEST_TEXT = 2000
MOST_NAMES = 99999
PERCENT = 37


def text_fault(text):
    """Return why a text cannot be kept: None, "too long" or "bad character"."""
    if len(text) > LONGEST_TEXT:
        return "too long"
    if not all([is_plain(sign) for sign in text]):
        return "bad character"
    return None


def is_plain(sign):
    """Whether a character may stand in a text."""
    code = ord(sign)
    return sign == "\n" or (32 <= code <= 126 and code != PERCENT)


class Store:
    """Keeps at most `capacity` texts at a time, and the names of all texts it ever had."""

    def __init__(self, capacity):
        self.capacity = capacity
        # From every text that was ever put to its name.
        self._names = {}
        # From the names of the texts that are here to the texts.
        self._here = {}
        # From names to their numbers of pins, also of texts that were lost.
        self._pins = {}

    def put(self, text):
        """Keep a text and return its name."""
        fault = text_fault(text)
        if fault is not None:
            raise BadText(fault)
        if not self._has_room([text]):
            raise StoreFull()
        return self._keep(text)

    def text(self, name):
        """Return the text with a name."""
        if name not in self._here:
            raise Missing(name)
        return self._here[name]

    def has(self, name):
        """Whether the text with a name is here."""
        return name in self._here

    def name_of(self, text):
        """Return the name of a text, also of one that is not here; None if it never was."""
        return self._names.get(text)

    def names(self):
        """Return the names of the texts that are here."""
        return tuple(sorted(self._here))

    def lose(self, name):
        """Make a text not here, as if a disk lost it."""
        if name not in self._here:
            raise Missing(name)
        del self._here[name]

    def pin(self, name):
        """Add a pin to a text that is here."""
        if name not in self._here:
            raise Missing(name)
        self._pins[name] = self.pins(name) + 1

    def unpin(self, name):
        """Remove a pin from a name."""
        if self.pins(name) == 0:
            raise NotPinned(name)
        self._pins[name] = self.pins(name) - 1

    def pins(self, name):
        """Return the number of pins of a name."""
        return self._pins.get(name, 0)

    def sweep(self, roots):
        """Make all texts not here that are neither roots nor pinned; return their names."""
        kept = {name: True for name in roots}
        swept = [name for name in self.names() if name not in kept and self.pins(name) == 0]
        for name in swept:
            del self._here[name]
        return tuple(swept)

    def put_tree(self, entries):
        """Keep the texts of a list of pairs (path, text) and return the tree of their names."""
        # The paths are checked before a text gets a name, so any names will do for it.
        make_tree([(path, 1) for path, _ in entries])
        texts = [text for _, text in entries]
        for text in texts:
            fault = text_fault(text)
            if fault is not None:
                raise BadText(fault)
        if not self._has_room(texts):
            raise StoreFull()
        named = []
        for path, text in entries:
            named.append((path, self._keep(text)))
        return make_tree(named)

    def texts_of(self, tree):
        """Return a dict from the paths of a tree to their texts."""
        texts = {}
        for path, name in tree:
            texts[path] = self.text(name)
        return texts

    def _has_room(self, texts):
        """Whether all of a list of texts can be here, beside those that are here now."""
        added = {text: True for text in texts if not self.has(self.name_of(text))}
        unknown = [text for text in added if text not in self._names]
        if len(self._here) + len(added) > self.capacity:
            return False
        return len(self._names) + len(unknown) <= MOST_NAMES

    def _keep(self, text):
        """Make a text here that there is room for, and return its name."""
        if text not in self._names:
            self._names[text] = len(self._names) + 1
        name = self._names[text]
        self._here[name] = text
        return name
