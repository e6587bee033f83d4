"""Patterns: trees with holes, which are integers, in place of some of their parts.

Patterns stand in tuples, as trees do in records. They may be deep, so none of
this calls itself.
"""


def nodes_ahead(patterns):
    """Return the list of all holes and (tag, parts) of some patterns: each tag ahead of its parts, from the left."""
    found = []
    waiting = list(patterns[::-1])
    while waiting:
        pattern = waiting.pop()
        if isinstance(pattern, int):
            found.append(pattern)
        else:
            found.append((pattern[0], len(pattern) - 1))
            waiting.extend(pattern[:0:-1])
    return found


def holes_of(patterns):
    """Return the list of the holes of some patterns, from the left."""
    return [node for node in nodes_ahead(patterns) if isinstance(node, int)]


def count_tags(patterns):
    """Return the number of the tags of some patterns."""
    return len([node for node in nodes_ahead(patterns) if not isinstance(node, int)])


def substituted(patterns, worth):
    """Return the patterns with what a dict has for a hole in its place; other holes stay."""
    built = []
    for node in nodes_ahead(patterns)[::-1]:
        if isinstance(node, int):
            built.append(worth.get(node, node))
        else:
            tag, parts = node
            start = len(built) - parts
            # Those behind the tag were found first, from the right, so its parts stand in reverse.
            built[start:] = [(tag,) + tuple(built[start:][::-1])]
    return tuple(built[::-1])


def matched(patterns, trees):
    """Return the dict from each hole of some patterns to what stands there in as many trees, None if they do not fit.

    The trees may have holes themselves: they fit if the patterns have no tag there.
    """
    found = {}
    waiting = list(zip(patterns, trees))
    while waiting:
        pattern, tree = waiting.pop()
        if isinstance(pattern, int):
            found[pattern] = tree
        elif isinstance(tree, int) or pattern[0] != tree[0]:
            return None
        else:
            waiting.extend(list(zip(pattern[1:], tree[1:])))
    return found


def bindings(one, other):
    """Return what makes as many patterns equal: a dict from holes of both to parts of the other; None if nothing does.

    Each hole stands once in all; the holes that the dict does not have stay free.
    """
    worth = {}
    waiting = list(zip(one, other))
    while waiting:
        first, second = waiting.pop()
        if isinstance(first, int):
            worth[first] = second
        elif isinstance(second, int):
            worth[second] = first
        elif first[0] != second[0]:
            return None
        else:
            waiting.extend(list(zip(first[1:], second[1:])))
    return worth
