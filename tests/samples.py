"""Nodes and programs that several tests use."""

TWO = ("count", 2)
THREE = ("count", 3)
FOUR = ("count", 4)
YES_NO = ("lot", ("no", "yes"))
COLOURS = ("lot", ("red", "blue"))
BOTH = ("pair", COLOURS, TWO)

SUM = ("sum", (("step", FOUR),), ("m",), (
    (("n",), ("held", FOUR, 0, "m", "step")),
    (("m",), ("op", "plus", ("n", "step"))),
))
TWICE = ("two", (("s", FOUR),), ("p",), ((("p",), ("call", "sum", ("s",), None)),))

# Each kind of right side, and each of them in a call as well.
LOW = ("low", (("i", TWO), ("j", YES_NO)), ("a", "b"), (
    (("a",), ("const", BOTH, ("red", 1), "i")),
    (("b",), ("table", TWO, (0, 1, 1, 0), ("i", "j"))),
    (("h",), ("held", TWO, 1, "b", "i")),
    (("w",), ("when", "i", "j", "yes")),
    (("v",), ("when", "i", "j", "no")),
    (("c",), ("choose", "j", ("v", "w"))),
    (("p",), ("op", "plus", ("i", "h"))),
))
MAIN = ("main", (("s", TWO), ("t", YES_NO)), ("x", "q"), (
    (("x", "y"), ("call", "low", ("s", "t"), None)),
    (("z", "q"), ("call", "low", ("s", "t"), ("t", "yes"))),
))
ALL = [LOW, MAIN]

# Calls within calls, agains within agains, and helds below them.
COUNTER = ("counter", (("up", FOUR), ("off", YES_NO)), ("n",), (
    (("n",), ("held", FOUR, 1, "m", "up")),
    (("m",), ("op", "plus", ("n", "up"))),
))
MIDDLE = ("middle", (("by", FOUR), ("clear", YES_NO)), ("out", "old"), (
    (("out",), ("call", "counter", ("by", "clear"), ("clear", "yes"))),
    (("old",), ("held", FOUR, 3, "out", "by")),
))
OUTER = ("outer", (("k", FOUR), ("r", COLOURS)), ("o", "last"), (
    (("c",), ("table", YES_NO, ("no", "yes"), ("r",))),
    (("o", "u"), ("call", "middle", ("k", "c"), ("r", "blue"))),
    (("last",), ("held", FOUR, 2, "u", "k")),
    (("e",), ("call", "counter", ("k", "c"), None)),
))
NESTED = [COUNTER, MIDDLE, OUTER]

# Streams, nodes and words that are called like the words of the texts.
ODD = ("in", (("node", YES_NO), ("out", TWO)), ("in", "op"), (
    (("in",), ("when", "out", "node", "yes")),
    (("call",), ("when", "out", "node", "no")),
    (("op",), ("choose", "node", ("call", "in"))),
    (("held",), ("const", ("lot", ("const", "held")), "held", "op")),
))
ODDER = ("node", (("when", YES_NO), ("choose", TWO)), ("table", "const"), (
    (("table", "const"), ("call", "in", ("when", "choose"), ("when", "no"))),
))
KEYWORDS = [ODD, ODDER]

# All ops, with pairs in pairs.
OPS = ("ops", (("x", TWO), ("y", THREE), ("b", YES_NO)), ("f", "l"), (
    (("p",), ("op", "pair", ("x", "y"))),
    (("f",), ("op", "first", ("p",))),
    (("g",), ("op", "second", ("p",))),
    (("u",), ("op", "same", ("f", "x"))),
    (("l",), ("op", "less", ("g", "y"))),
    (("a",), ("op", "and", ("u", "b"))),
    (("o",), ("op", "or", ("a", "l"))),
    (("n",), ("op", "not", ("o",))),
))

# A ring that sticks, one that clashes, and streams that are absent at times.
RING = ("ring", (("step", FOUR),), ("m",), (
    (("n",), ("held", FOUR, 0, "m", "one")),
    (("m",), ("op", "plus", ("n", "one"))),
    (("one",), ("const", FOUR, 1, "m")),
))
PART = ("part", (("s", FOUR), ("b", YES_NO)), ("x", "z"), (
    (("x",), ("when", "s", "b", "yes")),
    (("y",), ("when", "s", "b", "no")),
    (("z",), ("choose", "b", ("x", "y"))),
))
HALVES = ("halves", (("s", FOUR), ("b", YES_NO)), ("x", "z"), (
    (("x",), ("when", "s", "b", "yes")),
    (("y",), ("when", "s", "b", "no")),
    (("z",), ("choose", "b", ("y", "x"))),
))
SOMETIMES = ("some", (("b", YES_NO), ("s", FOUR)), ("t", "n"), (
    (("w",), ("when", "s", "b", "yes")),
    (("n",), ("held", FOUR, 3, "t", "w")),
    (("t",), ("op", "plus", ("n", "w"))),
))

PROGRAMS = {
    "sum": [SUM], "two": [SUM, TWICE], "all": ALL, "nested": NESTED, "keywords": KEYWORDS,
    "ops": [OPS], "ring": [RING], "part": [PART], "halves": [HALVES], "some": [SOMETIMES],
    "four": [SUM, COUNTER, PART, TWICE],
}

# The same calls as in NESTED, but each again has a word of its own.
CROSS = ("cross", (("k", FOUR), ("r", ("lot", ("go", "inner", "outer")))), ("o", "last"), (
    (("c",), ("table", YES_NO, ("no", "yes", "no"), ("r",))),
    (("o", "u"), ("call", "middle", ("k", "c"), ("r", "outer"))),
    (("last",), ("held", FOUR, 2, "u", "k")),
))
CROSSED = [COUNTER, MIDDLE, CROSS]

# A held that is absent at times, below an again, and a whole call that is absent at times.
KEEPER = ("keeper", (("f", FOUR), ("b", YES_NO)), ("h",), (
    (("w",), ("when", "f", "b", "yes")),
    (("h",), ("held", FOUR, 3, "w", "w")),
))
KEEPS = [KEEPER, ("keeps", (("x", FOUR), ("y", YES_NO)), ("h",), (
    (("h",), ("call", "keeper", ("x", "y"), ("y", "no"))),))]
RARELY = [COUNTER, ("rarely", (("x", FOUR), ("y", YES_NO)), ("n", "z"), (
    (("w",), ("when", "x", "y", "yes")),
    (("z",), ("when", "y", "y", "yes")),
    (("a",), ("op", "less", ("w", "w"))),
    (("n",), ("call", "counter", ("w", "a"), ("z", "yes"))),
))]

# What clashes and sticks at once.
WORST = ("worst", (("s", FOUR), ("b", YES_NO)), ("z",), (
    (("x",), ("when", "s", "b", "yes")),
    (("y",), ("when", "s", "b", "no")),
    (("r",), ("op", "plus", ("r", "s"))),
    (("q",), ("held", FOUR, 0, "q", "q")),
    (("z",), ("op", "plus", ("x", "y"))),
    (("v",), ("op", "plus", ("z", "r"))),
))
LOOP = ("loop", (("s", THREE),), ("b",), (
    (("a",), ("op", "plus", ("s", "b"))),
    (("b",), ("op", "plus", ("a", "s"))),
    (("c",), ("op", "plus", ("s", "s"))),
))

# Good, a clash, or stuck, as the input has it: d is always absent, k waits for itself.
TURNS = ("turns", (("r", ("lot", ("good", "crash", "stop"))), ("s", FOUR)), ("o", "n"), (
    (("o",), ("choose", "r", ("g", "d", "k"))),
    (("g",), ("when", "s", "r", "good")),
    (("w",), ("when", "r", "r", "good")),
    (("d",), ("when", "g", "w", "stop")),
    (("t",), ("when", "s", "r", "stop")),
    (("k",), ("op", "plus", ("k", "t"))),
    (("n",), ("held", FOUR, 1, "s", "r")),
))

PROGRAMS.update({
    "crossed": CROSSED, "keeps": KEEPS, "rarely": RARELY, "worst": [WORST], "loop": [LOOP], "turns": [TURNS],
})
