"""Keys, which name everything that a result depends on, and claims, as texts."""

from truemill.errors import BadMessage
from truemill.lexer import tokens
from truemill.numerals import is_numeral
from truemill.store import text_fault

MOST_ARGS = 12
LONGEST_ARG = 60
MOST_NAMES = 24
MOST_DIGITS = 5
LONGEST_REASON = 80


def key_text(key):
    """Return the text of a key (tool, args, names)."""
    tool, args, names = key
    lines = [tool]
    lines.extend(["arg " + arg for arg in args])
    lines.extend([f"in {name}" for name in names])
    return "".join([line + "\n" for line in lines])


def read_key(text):
    """Return the key of a text that `key_text` can make."""
    lines = text.split("\n")
    tool = lines[0]
    args = [line[4:] for line in lines if line.startswith("arg ")]
    digits = [line[3:] for line in lines if line.startswith("in ")]
    if not is_word(tool) or not are_args(args) or not are_names(digits):
        raise BadMessage()
    key = (tool, tuple(args), tuple([int(name) for name in digits]))
    # Lines that are nothing, or that stand in another order, are not made again.
    if key_text(key) != text:
        raise BadMessage()
    return key


def is_word(text):
    """Whether a text is a word of a build file, reserved or not."""
    return tokens(text) == (("word", text, 1, 1),)


def are_args(args):
    """Whether a list of texts without newlines may be the args of a key."""
    return len(args) <= MOST_ARGS and all([is_short(arg, LONGEST_ARG) for arg in args])


def is_short(text, most):
    """Whether a text has so many characters at most, all of which a text may have."""
    return len(text) <= most and text_fault(text) is None


def are_names(names):
    """Whether a list of texts may be the names of a key in digits."""
    return len(names) <= MOST_NAMES and all([is_name(name) for name in names])


def is_name(text):
    """Whether a text is a name of the store in digits, without leading zeros."""
    return is_numeral(text, MOST_DIGITS) and text != "0"


def claim_text(result):
    """Return the claim of a result: ("made", text) or ("failed", reason)."""
    kind, told = result
    return kind + "\n" + told


def read_claim(text):
    """Return the result of a claim."""
    kind, newline, told = text.partition("\n")
    if newline == "" or not is_told(kind, told):
        raise BadMessage()
    return (kind, told)


def is_told(kind, told):
    """Whether a result of a kind may be told: a text that can be kept, or a short reason."""
    if kind == "made":
        return text_fault(told) is None
    return kind == "failed" and "\n" not in told and is_short(told, LONGEST_REASON)
