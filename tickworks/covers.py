"""Whether some conditions cover a clock: whether no words of roots escape them all.

Groups are pairs (conditions, roots): where all conditions are so, the roots have one word.
"""

from tickworks.conditions import are_met, do_clash, from_pairs


def spread(words, groups):
    """Words of roots with those that groups ask for besides, or None if a group cannot have one word."""
    told = dict(words)
    for conditions, roots in groups:
        known = [told[root] for root in roots if root in told]
        if len(known) > 0 and are_met(conditions, told):
            if known != [known[0]] * len(known):
                return None
            for root in roots:
                told[root] = known[0]
    # What a later group tells may be asked for by one ahead.
    return told if told == words else spread(told, groups)


def first_open(words, some, groups):
    """A root without a word on which it depends whether words escape, or None if there is none."""
    for conditions in some:
        for root in conditions:
            if root not in words:
                return root
    for conditions, roots in groups:
        for root in [*conditions, *roots]:
            if root not in words:
                return root
    return None


def can_escape(ground, words, some, groups):
    """Whether all roots can have words, these among them, such that the groups hold and none of some does."""
    words = spread(words, groups)
    if words is None:
        return False
    some = [conditions for conditions in some if not do_clash(conditions, words)]
    groups = [(conditions, roots) for conditions, roots in groups if not do_clash(conditions, words)]
    if any([are_met(conditions, words) for conditions in some]):
        return False
    root = first_open(words, some, groups)
    if root is None:
        return True
    for word in ground.kinds[root][1]:
        if can_escape(ground, {**words, root: word}, some, groups):
            return True
    return False


def groups_of(walk):
    """The list of the groups of the ifs that a walk went through, each once; those of one root tell nothing."""
    found = {}
    for conditions, roots in walk.ifs:
        if len(roots) > 1:
            found[(tuple(sorted(conditions.items())), roots)] = (conditions, roots)
    return list(found.values())


def covered(walk, words, name, pairs):
    """Whether the rows with these first words that did an output or a held cover a clock of pairs (root, word)."""
    some = [conditions for word in words for conditions in walk.passed(word, name)]
    told = from_pairs(pairs)
    return told is None or not can_escape(walk.ground, told, some, groups_of(walk))


def are_all_told(walk, output):
    """Whether the tells of an output cover its clock."""
    ground = walk.ground
    return covered(walk, ("tell",), output, ground.clocks[ground.numbers[output]])


def is_kept(walk, held):
    """Whether the stores and renews of a held cover its clock, and its renews all of its agains."""
    ground = walk.ground
    number = ground.numbers[held]
    if not covered(walk, ("store", "renew"), held, ground.clocks[number]):
        return False
    for cond, word in ground.rights[number][5]:
        clock = ground.clocks[ground.numbers[cond]]
        if not covered(walk, ("renew",), held, clock + ((ground.root(cond), word),)):
            return False
    return True
