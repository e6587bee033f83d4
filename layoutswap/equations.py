"""Equations between patterns, solved by numbers that stand for their parts.

Each hole has a number, and each tag another one wherever it stands. Numbers of
equal parts are joined, and one of them is their leader. What stands often in the
trees of a solution stands here once: they may be too large to be written out.
"""

from layoutswap.patterns import nodes_ahead


class Parts:
    """Numbered parts of patterns, and which of them are equal."""

    def __init__(self, many):
        """Begin with so many holes, each with its own number."""
        self.tags = [None for _ in range(many)]
        self.below = [[] for _ in range(many)]
        self.leaders = list(range(many))

    def numbers_of(self, patterns):
        """Give numbers to all tags of some patterns, and return the list of the numbers of the patterns."""
        built = []
        for node in nodes_ahead(patterns)[::-1]:
            if isinstance(node, int):
                built.append(node)
            else:
                tag, parts = node
                start = len(built) - parts
                self.tags.append(tag)
                # Those behind the tag were numbered first, from the right, so its parts stand in reverse.
                self.below.append(built[start:][::-1])
                self.leaders.append(len(self.leaders))
                built[start:] = [len(self.leaders) - 1]
        return built[::-1]

    def leader(self, number):
        """Return the number that stands for all that are equal to this one."""
        leaders = self.leaders
        while leaders[number] != number:
            leaders[number] = leaders[leaders[number]]
            number = leaders[number]
        return number

    def solve(self, pairs):
        """Make the numbers in each pair equal, and so their parts; return whether no two different tags meet."""
        waiting = list(pairs)
        while waiting:
            first, second = waiting.pop()
            first, second = self.leader(first), self.leader(second)
            if first != second:
                if self.tags[first] is None:
                    first, second = second, first
                self.leaders[second] = first
                if self.tags[second] is not None:
                    if self.tags[first] != self.tags[second]:
                        return False
                    waiting.extend(list(zip(self.below[first], self.below[second])))
        return True

    def parts_below(self, number):
        """Return the list of the leaders of the parts below a leader."""
        return [self.leader(part) for part in self.below[number]]

    def ahead_of_parts(self, roots):
        """Return the list of all leaders at and below some, each ahead of its parts; None if one is below itself."""
        found = []
        is_left = {}
        waiting = [(root, False) for root in roots]
        while waiting:
            number, leaving = waiting.pop()
            if leaving:
                is_left[number] = True
                found.append(number)
            elif number not in is_left:
                is_left[number] = False
                waiting.append((number, True))
                below = self.parts_below(number)
                if any([is_left.get(part) is False for part in below]):
                    return None
                waiting.extend([(part, False) for part in below])
        return found[::-1]


def times_used(parts, roots, order):
    """Return the dict from each of the leaders in order to how often it stands in the trees of the roots."""
    times = {number: 0 for number in order}
    for root in roots:
        times[root] = times[root] + 1
    for number in order:
        for part in parts.parts_below(number):
            times[part] = times[part] + times[number]
    return times
