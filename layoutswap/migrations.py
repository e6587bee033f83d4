"""Migrations: rows of steps that lead the records of a layout to those of another one, and back."""

from layoutswap.errors import Mismatch, NoLayout, NoRecord, NoStep
from layoutswap.kinds import check_kind
from layoutswap.layouts import Layout
from layoutswap.records import is_record
from layoutswap.steps import changed, is_step, led_back, led_on


def layouts_on_the_way(kind, layout, steps):
    """Return the list of the layouts ahead of each step and behind the last one."""
    present = layout
    layouts = [present]
    for place, step in enumerate(steps):
        if not is_step(kind, present, step):
            raise NoStep(place)
        present = changed(kind, present, step)
        layouts.append(present)
    return layouts


def steps_back(layout, step):
    """Return the list of the steps that undo a step at a layout."""
    word, k = step[:2]
    if word == "open":
        return [("close",) + step[1:]]
    if word == "close":
        return [("open",) + step[1:]]
    if word == "turn":
        # A turn of j trees, done j times, leaves them as they were.
        return [step] * (step[3] - 1)
    _, _, start, n = step
    between = layout[k] - start - n
    return [("move", k, start, between)] if between > 0 else []


def steps_behind(steps, layout):
    """Return the list of the steps that do the same to places that stand behind those of another layout.

    Only moves count places from the front; all others take the last ones.
    """
    return [("move", step[1], step[2] + layout[step[1]], step[3]) if step[0] == "move" else step for step in steps]


def steps_past(layout, other):
    """Return the list of the moves of all places of a layout behind those of another one."""
    return [("move", k, 0, n) for k, n in enumerate(layout.factors) if n > 0 and other[k] > 0]


def led_through(migration, record):
    """Return the record to which a migration leads a record of its source; nothing is checked."""
    for place, step in enumerate(migration.steps):
        record = led_on(migration.kind, migration.layouts[place], step, record)
    return record


def led_back_through(migration, record):
    """Return the record that a migration leads to a record of its target; nothing is checked."""
    for place in reversed(range(len(migration.steps))):
        record = led_back(migration.kind, migration.layouts[place + 1], migration.steps[place], record)
    return record


class Migration:
    """A kind, a layout and the steps from it on; nothing changes it."""

    def __init__(self, kind, layout, steps):
        check_kind(kind)
        if not isinstance(layout, Layout):
            raise NoLayout("this is no layout")
        if not isinstance(steps, (list, tuple)):
            raise NoStep(-1)
        self.kind = kind
        self.source = layout
        self.steps = tuple(steps)
        # The ones ahead of each step, and the one behind the last step.
        self.layouts = layouts_on_the_way(kind, layout, self.steps)
        self.target = self.layouts[-1]

    @classmethod
    def nothing(cls, kind, layout):
        """Return the migration without steps."""
        return cls(kind, layout, ())

    def __call__(self, record):
        """Return the record to which the migration leads a record of the source."""
        if record not in self:
            raise NoRecord("this is no record of the source")
        return led_through(self, record)

    def back(self, record):
        """Return the record of the source that the migration leads to a record of the target."""
        if not is_record(self.kind, self.target, record):
            raise NoRecord("this is no record of the target")
        return led_back_through(self, record)

    def way(self, record):
        """Generate the record and the one behind each step."""
        if record not in self:
            raise NoRecord("this is no record of the source")
        yield record
        for place, step in enumerate(self.steps):
            record = led_on(self.kind, self.layouts[place], step, record)
            yield record

    def __contains__(self, x):
        return is_record(self.kind, self.source, x)

    def __invert__(self):
        steps = []
        for place in reversed(range(len(self.steps))):
            steps.extend(steps_back(self.layouts[place], self.steps[place]))
        return Migration(self.kind, self.target, steps)

    def __rshift__(self, other):
        if not isinstance(other, Migration):
            return NotImplemented
        if self.kind != other.kind or self.target != other.source:
            raise Mismatch("the second migration does not go on where the first one ends")
        return Migration(self.kind, self.source, self.steps + other.steps)

    def __pow__(self, other):
        if self.source != self.target:
            raise Mismatch("source and target are different")
        return Migration(self.kind, self.source, self.steps * other)

    def __lshift__(self, other):
        steps = [(step[0], step[1] + other) + step[2:] for step in self.steps]
        return Migration(self.kind, self.source << other, steps)

    def __add__(self, other):
        if not isinstance(other, Migration):
            return NotImplemented
        if self.kind != other.kind:
            raise Mismatch("migrations of two kinds")
        # What stands last can be led as it is: first other's places, then one's, then they change places again.
        steps = steps_behind(other.steps, self.source) + steps_past(self.source, other.target)
        steps = steps + steps_behind(self.steps, other.target) + steps_past(other.target, self.target)
        return Migration(self.kind, self.source + other.source, steps)

    def __eq__(self, other):
        return (
            isinstance(other, Migration) and self.kind == other.kind
            and self.source == other.source and self.steps == other.steps
        )

    def __len__(self):
        return len(self.steps)

    def __bool__(self):
        return bool(self.steps)
