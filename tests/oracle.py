"""What the document tells, done in the plainest way: slow, and only for what is small."""

import itertools

BINARY = (("leaf", 0), ("join", 2))
TURNED = (("join", 2), ("leaf", 0))
MOTZKIN = (("a", 0), ("u", 1), ("c", 2))
EVEN = (("a", 0), ("b", 0), ("u", 1), ("j", 2), ("k", 2))
WIDE = (("e", 4), ("d", 3), ("c", 2), ("u", 1), ("a", 0), ("b", 0), ("v", 1), ("f", 4))
FOUR = (("x", 4), ("y", 0))
HALVES = (("z", 0), ("p", 3), ("y", 0), ("q", 3), ("u", 1))
KINDS = (BINARY, TURNED, MOTZKIN, EVEN, WIDE, FOUR, HALVES)

# Objects of many forms, none of them a kind, a layout, a tree, a record, a step or a list of steps.
OTHERS = (
    None, True, False, 0, 1, -1, 10 ** 49, "", "leaf", "open", (), (0,), ("leaf", 0), ("leaf", ()), {}, {"leaf": 0},
    {0: 1}, ((),), ("",), (None,), (True,), ("open",), ("open", 1), (1, 0), (1, 0, ()), (0, 0, [()]), "x" * 10000,
)


def partitions(total, many):
    """All tuples of so many integers from 1 on that add up to a total."""
    if many == 0:
        return [()] if total == 0 else []
    return [(first,) + rest for first in range(1, total + 1) for rest in partitions(total - first, many - 1)]


def trees_of_size(kind, size, known):
    """All trees of a size, in any order; known keeps what was found."""
    if size not in known:
        known[size] = [
            (tag,) + parts for tag, many in kind for sizes in partitions(size - 1, many)
            for parts in itertools.product(*(trees_of_size(kind, part, known) for part in sizes))
        ]
    return known[size]


def size_of_tree(tree):
    return 1 + sum(size_of_tree(part) for part in tree[1:])


def order_of_tree(kind, tree):
    """What trees are ordered by (point 4)."""
    tags = [tag for tag, _ in kind]
    return (size_of_tree(tree), tags.index(tree[0]), tuple(order_of_tree(kind, part) for part in tree[1:]))


def all_trees(kind, size):
    """The list of the trees up to a size, in order."""
    known = {0: []}
    found = [tree for each in range(1, size + 1) for tree in trees_of_size(kind, each, known)]
    return sorted(found, key=lambda tree: order_of_tree(kind, tree))


def order_of_record(kind, record):
    """What records are ordered by (point 6)."""
    k, i, trees = record
    return (sum(size_of_tree(tree) for tree in trees), k, i, tuple(order_of_tree(kind, tree) for tree in trees))


def all_records(kind, factors, size):
    """The list of the records up to a size, in order."""
    known = {0: []}
    found = []
    for k, factor in enumerate(factors):
        for whole in range(size + 1):
            for sizes in partitions(whole, k):
                for trees in itertools.product(*(trees_of_size(kind, part, known) for part in sizes)):
                    found.extend((k, i, trees) for i in range(factor))
    return sorted(found, key=lambda record: order_of_record(kind, record))


def leaning(kind, levels, side):
    """A tree with a tag in each of so many levels below each other, at one side of its parts."""
    leaf = next((tag,) for tag, many in kind if many == 0)
    tag, many = max(kind, key=lambda variant: variant[1])
    tree = leaf
    for _ in range(levels - 1):
        parts = [leaf] * many
        parts[side % many] = tree
        tree = (tag, *parts)
    return tree


def same(one, other):
    """Whether two things of tuples are equal, however deep they are."""
    waiting = [(one, other)]
    while waiting:
        first, second = waiting.pop()
        if isinstance(first, tuple) and isinstance(second, tuple):
            if len(first) != len(second):
                return False
            waiting.extend(zip(first, second))
        elif type(first) is not type(second) or first != second:
            return False
    return True


def times(one, other):
    """The product of two polynomials, as a list of factors."""
    found = [0] * (len(one) + len(other))
    for j, first in enumerate(one):
        for k, second in enumerate(other):
            found[j + k] += first * second
    return found


def cut(factors):
    """The tuple of the factors without the zeros at the end."""
    factors = list(factors)
    while factors and not factors[-1]:
        factors.pop()
    return tuple(factors)


def plus(one, other, sign=1):
    """The sum of two polynomials, or with the sign -1 their difference."""
    return cut(first + sign * second for first, second in itertools.zip_longest(one, other, fillvalue=0))


def f_of(kind):
    """The factors of F."""
    factors = [sum(many == k for _, many in kind) for k in range(5)]
    factors[1] -= 1
    return cut(factors)


def divides(factors, by):
    """Whether one polynomial is another one times some polynomial: divided from t^0 on, where by is not 0."""
    left = list(factors) + [0] * len(by)
    for k in range(len(factors)):
        if left[k] % by[0]:
            return False
        many = left[k] // by[0]
        for j, factor in enumerate(by):
            left[k + j] -= many * factor
    return not any(left)
