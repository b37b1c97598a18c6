"""The tools: each makes a text of texts, or fails."""

from truemill.store import text_fault

# How many args each tool may have.
ARG_NUMBERS = {
    "join": (0, 1), "pick": (1,), "sort": (0,), "head": (1,), "swap": (2,),
    "upper": (0,), "count": (0,), "same": (0,), "need": (1,),
}
DIGITS = "0123456789"


def run_tool(tool, args, inputs):
    """Return the result of a tool: ("made", text) or ("failed", reason)."""
    if tool not in ARG_NUMBERS:
        return ("failed", "no such tool")
    if not are_args(tool, args):
        return ("failed", "wrong args")
    reason = refusal(tool, args, inputs)
    if reason is not None:
        return ("failed", reason)
    text = made_text(tool, args, inputs)
    if text_fault(text) == "too long":
        return ("failed", "too long")
    return ("made", text)


def are_args(tool, args):
    """Whether a tool takes the args."""
    if len(args) not in ARG_NUMBERS[tool]:
        return False
    if tool == "head":
        return len(args[0]) in (1, 2) and all([sign in DIGITS for sign in args[0]])
    return tool != "swap" or args[0] != ""


def refusal(tool, args, inputs):
    """Return why a tool refuses its inputs, or None."""
    if tool == "same" and any([text != inputs[0] for text in inputs]):
        return "inputs differ"
    if tool == "need":
        for at, text in enumerate(inputs):
            if args[0] not in text:
                return f"input {at + 1} lacks it"
    return None


def made_text(tool, args, inputs):
    """Return the text that a tool makes of inputs that it does not refuse."""
    if tool == "join":
        separator = args[0] if len(args) == 1 else ""
        return separator.join(inputs)
    if tool == "pick":
        return ended([line for line in all_lines(inputs) if args[0] in line])
    if tool == "sort":
        return ended(sorted(all_lines(inputs)))
    if tool == "head":
        return ended(all_lines(inputs)[:int(args[0])])
    if tool == "swap":
        return "".join(inputs).replace(args[0], args[1])
    if tool == "upper":
        return "".join(inputs).upper()
    if tool == "count":
        return str(len(all_lines(inputs))) + "\n"
    if tool == "same":
        return inputs[0] if len(inputs) > 0 else ""
    return "".join(inputs)


def lines_of(text):
    """Return the lines of a text, without their newlines."""
    parts = text.split("\n")
    if parts[-1] == "":
        return tuple(parts[:-1])
    return tuple(parts)


def all_lines(inputs):
    """Return a list of the lines of all inputs, in their order."""
    return [line for text in inputs for line in lines_of(text)]


def ended(lines):
    """Return the text of lines, each followed by a newline."""
    return "".join([line + "\n" for line in lines])
