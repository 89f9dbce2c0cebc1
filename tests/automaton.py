"""Where a text goes wrong, found by another way than the package's.

A grammar is a dict from a symbol to its alternatives, tuples of symbols; what is no
key of it is a string of the characters that may stand there. All stacks of symbols
that a text may still go on with are followed at once, character by character.
"""

LETTERS = "abcdefghijklmnopqrstuvwxyz"


def word_alternatives():
    """A word: one to eight letters."""
    return [(LETTERS,) * length for length in range(1, 9)]


def chars(text):
    """The symbols of a text, one for each character."""
    return tuple(text)


def type_grammar():
    """The grammar of the texts of [1.4] that read_type reads, from T1 on."""
    lots = [
        chars("lot(") + ("WORD", ",") * (length - 1) + ("WORD", ")") for length in (2, 3, 4)
    ]
    grammar = {"WORD": word_alternatives(), "LOT": lots, "COUNT": [chars("count(") + ("23456", ")")]}
    for depth in range(1, 6):
        grammar[f"T{depth}"] = [("LOT",), ("COUNT",)]
        if depth < 5:
            inner = f"T{depth + 1}"
            grammar[f"T{depth}"].append(chars("pair(") + (inner, ",", inner, ")"))
    return grammar


def text_grammar(texts):
    """The grammar of one of these texts, from ONE on, and of a stream of them, from ALL on."""
    return {
        "ONE": [chars(text) for text in texts],
        "TICK": [("-",)] + [chars(text) for text in texts],
        "MORE": [("TICK",), ("TICK", " ", "MORE")],
        "ALL": [(), ("MORE",)],
    }


def opened(grammar, stacks):
    """All stacks that begin with a character's symbol, or are empty, behind these."""
    found, waiting = set(), list(stacks)
    while waiting:
        stack = waiting.pop()
        if stack and stack[0] in grammar:
            waiting.extend(alternative + stack[1:] for alternative in grammar[stack[0]])
        else:
            found.add(stack)
    return found


def wrong_place(grammar, start, text):
    """None if the text is right, else the place of BadText."""
    stacks = opened(grammar, [(start,)])
    for place, char in enumerate(text):
        left = [stack[1:] for stack in stacks if stack and char in stack[0]]
        if not left:
            return place
        stacks = opened(grammar, left)
    return None if () in stacks else len(text)


SIGNS = "alcp-(), 0267_Az\t\n"


def edits(text):
    """The texts that come of one: a sign put in, left out, exchanged, doubled, and all cuts."""
    found = [text]
    for place in range(len(text) + 1):
        head, tail = text[:place], text[place:]
        found.append(head)
        found.append(tail)
        found.extend(head + sign + tail for sign in SIGNS)
        if tail:
            found.append(head + tail[1:])
            found.append(head + tail[0] + tail)
            found.extend(head + sign + tail[1:] for sign in SIGNS)
        if len(tail) > 1:
            found.append(head + tail[1] + tail[0] + tail[2:])
    return sorted(set(found))
