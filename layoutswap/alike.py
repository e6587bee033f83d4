"""Whether two migrations are alike, and the first record that they lead to two different ones."""

from layoutswap.deviations import first_deviation, lead_alike
from layoutswap.errors import Mismatch
from layoutswap.migrations import Migration
from layoutswap.rows import rows


def check_ends(one, other):
    """Raise Mismatch if two migrations do not have the same kind, source and target."""
    if one.kind != other.kind or one.source != other.source or one.target != other.target:
        raise Mismatch("the migrations have different kinds, sources or targets")


def first_difference(one, other):
    """Return the first record that two migrations lead to two different ones, or None."""
    check_ends(one, other)
    return first_deviation(one.kind, rows(one), rows(other))


def are_alike(one, other):
    """Tell whether two migrations lead each record to the same one."""
    check_ends(one, other)
    return lead_alike(rows(one), rows(other))


def changes_nothing(migration):
    """Tell whether each record stays."""
    return are_alike(migration, Migration.nothing(migration.kind, migration.source))
