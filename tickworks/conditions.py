"""Conditions: dicts from roots to words. Where ticks come no root has two words."""


def are_met(conditions, words):
    """Whether all conditions are among these words of roots."""
    return all([words.get(root) == word for root, word in conditions.items()])


def do_clash(one, other):
    """Whether one root has a word in one, and another word in the other."""
    return any([other.get(root, word) != word for root, word in one.items()])


def from_pairs(pairs):
    """The conditions with these pairs (root, word), or None if they clash with themselves."""
    conditions = {}
    for root, word in pairs:
        if conditions.get(root, word) != word:
            return None
        conditions[root] = word
    return conditions
