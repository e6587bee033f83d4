"""Parts of patterns with numbers, equal parts with the same one, and equations between them.

Parts may be deep, and stand very often in the trees of a solution; told by their
numbers they are compared at once, and stand here only once.
"""

from layoutswap.patterns import nodes_ahead


class Parts:
    """The numbers of parts of patterns: the holes are their own numbers, tags with equal parts have the same one."""

    def __init__(self, many):
        """Begin with so many holes."""
        self.tags = [None for _ in range(many)]
        self.below = [() for _ in range(many)]
        self.known = {}

    def numbers_of(self, patterns):
        """Return the list of the numbers of some patterns."""
        built = []
        for node in nodes_ahead(patterns)[::-1]:
            if isinstance(node, int):
                built.append(node)
            else:
                tag, parts = node
                start = len(built) - parts
                # Those behind the tag were numbered first, from the right, so its parts stand in reverse.
                built[start:] = [self.number_with(tag, tuple(built[start:][::-1]))]
        return built[::-1]

    def number_with(self, tag, below):
        """Return the number of a tag with parts of these numbers."""
        key = (tag,) + below
        if key not in self.known:
            self.known[key] = len(self.tags)
            self.tags.append(tag)
            self.below.append(below)
        return self.known[key]


class Equations:
    """Which numbers of parts are equal: those with the same leader, which is one of them."""

    def __init__(self, parts):
        self.tags = parts.tags
        self.below = parts.below
        self.leaders = list(range(len(parts.tags)))

    def leader(self, number):
        """Return the number that stands for all that are equal to this one."""
        leaders = self.leaders
        while leaders[number] != number:
            leaders[number] = leaders[leaders[number]]
            number = leaders[number]
        return number

    def solve(self, pairs):
        """Make the numbers in each pair equal, and so their parts; return whether no two different tags meet."""
        waiting = list(pairs)
        while waiting:
            first, second = waiting.pop()
            first, second = self.leader(first), self.leader(second)
            if first != second:
                if self.tags[first] is None:
                    first, second = second, first
                self.leaders[second] = first
                if self.tags[second] is not None:
                    if self.tags[first] != self.tags[second]:
                        return False
                    waiting.extend(list(zip(self.below[first], self.below[second])))
        return True

    def parts_below(self, number):
        """Return the list of the leaders of the parts below a leader."""
        return [self.leader(part) for part in self.below[number]]

    def ahead_of_parts(self, roots):
        """Return the list of all leaders at and below some, each ahead of its parts; None if one is below itself."""
        found = []
        is_left = {}
        waiting = [(root, False) for root in roots]
        while waiting:
            number, leaving = waiting.pop()
            if leaving:
                is_left[number] = True
                found.append(number)
            elif number not in is_left:
                is_left[number] = False
                waiting.append((number, True))
                below = self.parts_below(number)
                if any([is_left.get(part) is False for part in below]):
                    return None
                waiting.extend([(part, False) for part in below])
        return found[::-1]

    def times_used(self, roots, order):
        """Return the dict from each of the leaders in order to how often it stands in the trees of the roots."""
        times = {number: 0 for number in order}
        for root in roots:
            times[root] = times[root] + 1
        for number in order:
            for part in self.parts_below(number):
                times[part] = times[part] + times[number]
        return times
