"""Tells, without the parser, which token of a build file is the first one that cannot stand.

It follows the grammar of point 17 by sets of all its rules that are possible at a token, so it
needs no decision about what to read next. Whatever words can derive something, so a token can
stand where it stands if and only if some rule is left behind it.
"""

RESERVED = ("set make by with from needs if else each in shape use not files flag when").split()

# Names in capitals are rules; everything else is a token. Each rule has several choices.
RULES = {
    "FILE": ["", "STATEMENT FILE"],
    "STATEMENT": [
        "set name = EXPRESSION ;",
        "make EXPRESSION by name WITH FROM NEEDS ;",
        "if CONDITION BLOCK",
        "if CONDITION BLOCK else BLOCK",
        "each name in EXPRESSION BLOCK",
        "shape name ( ) BLOCK",
        "shape name ( NAMES ) BLOCK",
        "use name ( ) ;",
        "use name ( EXPRESSIONS ) ;",
    ],
    "WITH": ["", "with EXPRESSION"],
    "FROM": ["", "from EXPRESSION"],
    "NEEDS": ["", "needs EXPRESSION"],
    "NAMES": ["name", "name , NAMES"],
    "EXPRESSIONS": ["EXPRESSION", "EXPRESSION , EXPRESSIONS"],
    "BLOCK": ["{ FILE }"],
    "CONDITION": ["COMPARED", "not COMPARED"],
    "COMPARED": ["EXPRESSION == EXPRESSION", "EXPRESSION != EXPRESSION", "EXPRESSION in EXPRESSION"],
    "EXPRESSION": ["TERM", "TERM + EXPRESSION"],
    "TERM": [
        "text",
        "name",
        "files ( text )",
        "flag ( text )",
        "[ ]",
        "[ EXPRESSIONS ]",
        "[ EXPRESSION each name in EXPRESSION ]",
        "[ EXPRESSION each name in EXPRESSION when CONDITION ]",
    ],
}
CHOICES = {name: [tuple(choice.split()) for choice in choices] for name, choices in RULES.items()}


def word_of(token):
    """Return the token of the grammar for a token of the lexer."""
    if token[0] == "text":
        return "text"
    if token[0] == "word" and token[1] not in RESERVED:
        return "name"
    return token[1]


def closed(states, earlier, at):
    """Add to the states at a place all that follow from them: (rule, choice, position, start)."""
    found = dict.fromkeys(states)
    todo = list(found)
    while todo:
        rule, choice, position, start = todo.pop()
        new = []
        if position == len(choice):
            new = [(outer, body, place + 1, begin)
                   for outer, body, place, begin in list(found if start == at else earlier[start])
                   if place < len(body) and body[place] == rule]
        elif choice[position] in CHOICES:
            wanted = choice[position]
            new = [(wanted, body, 0, at) for body in CHOICES[wanted]]
            # A rule that may be empty is passed at once, too.
            if () in CHOICES[wanted]:
                new.append((rule, choice, position + 1, start))
        for state in new:
            if state not in found:
                found[state] = None
                todo.append(state)
    return found


def first_bad(words):
    """Return the position of the first word that cannot stand; that behind the last one if the
    words end too early; None if they are a file."""
    sets = [closed([("FILE", choice, 0, 0) for choice in CHOICES["FILE"]], [], 0)]
    for at, word in enumerate(words):
        moved = [(rule, choice, position + 1, start) for rule, choice, position, start in sets[at]
                 if position < len(choice) and choice[position] == word]
        if not moved:
            return at
        sets.append(closed(moved, sets, at + 1))
    whole = any(rule == "FILE" and position == len(choice) and start == 0
                for rule, choice, position, start in sets[-1])
    return None if whole else len(words)
