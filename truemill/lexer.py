"""The tokens of build files."""

WORD_STARTS = "abcdefghijklmnopqrstuvwxyz"
WORD_SIGNS = "abcdefghijklmnopqrstuvwxyz0123456789_"
LONGEST_WORD = 20
LONGEST_VALUE = 100
SIGNS = "{}[](),;=+"
LONG_SIGNS = ("==", "!=")
ESCAPES = {"\"": "\"", "\\": "\\", "n": "\n"}


def tokens(text):
    """Return the tokens (kind, value, line, column) of a text, up to the first error."""
    found = []
    at = 0
    line = 1
    line_start = 0
    while at < len(text):
        if text[at] == "\n":
            at += 1
            line += 1
            line_start = at
        elif text[at] == " ":
            at += 1
        else:
            kind, value, end = token_at(text, at)
            found.append((kind, value, line, at - line_start + 1))
            if kind == "error":
                return tuple(found)
            at = end
    return tuple(found)


def token_at(text, at):
    """Return the kind and the value of the token that begins at a position, and its end."""
    if text[at] in WORD_STARTS:
        return word_at(text, at)
    if text[at] == "\"":
        return quoted_at(text, at)
    if text[at:at + 2] in LONG_SIGNS:
        return ("sign", text[at:at + 2], at + 2)
    if text[at] in SIGNS:
        return ("sign", text[at], at + 1)
    return ("error", "", at)


def word_at(text, at):
    """Return kind, value and end of the word that begins at a position."""
    end = at
    while end < len(text) and text[end] in WORD_SIGNS:
        end += 1
    if end - at > LONGEST_WORD:
        return ("error", "", at)
    return ("word", text[at:end], end)


def quoted_at(text, at):
    """Return kind, value and end of the text token that begins at a position."""
    value = []
    end = at + 1
    while end < len(text) and text[end] != "\n":
        if text[end] == "\"":
            return quoted_token("".join(value), at, end + 1)
        if text[end] == "\\":
            end += 1
            if end == len(text) or text[end] not in ESCAPES:
                return ("error", "", at)
            value.append(ESCAPES[text[end]])
        else:
            value.append(text[end])
        end += 1
    return ("error", "", at)


def quoted_token(value, at, end):
    """Return kind, value and end of a text token that is closed: its value may be too long."""
    if len(value) > LONGEST_VALUE:
        return ("error", "", at)
    return ("text", value, end)
