"""Stores: records under names in a layout that is migrated, and views that show them in earlier layouts."""

from layoutswap.errors import LayoutError, Mismatch, NoEra, NoMark, NoName, NoRecord, TooMany
from layoutswap.finder import migration_to
from layoutswap.kinds import check_kind
from layoutswap.migrations import Migration, led_back_through, led_through
from layoutswap.names import is_integer, is_name
from layoutswap.records import is_record

# How many parts an operation has, its word counted.
LENGTHS = {"put": 3, "drop": 2, "migrate": 2}


def has_record(store, thing):
    """Tell whether any object is a name under which a store has a record."""
    return is_name(thing) and thing in store.records


def check_there(store, thing):
    """Raise NoName if any object is no name under which a store has a record."""
    if not has_record(store, thing):
        raise NoName("there is no record under such a name")


def check_fits(store, layout, name, record):
    """Raise NoName, NoRecord or TooMany if a record of a layout cannot be put into a store under a name."""
    if not is_name(name):
        raise NoName("this is no name")
    if not is_record(store.kind, layout, record):
        raise NoRecord("this is no record of the layout")
    if name not in store.records and len(store.records) >= store.most:
        raise TooMany(store.most)


def begin_era(store, migration):
    """Begin an era of a store with the layout to which a migration leads."""
    store.begun = store.begun + 1
    store.stages.append((store.begun, migration.target, migration))


def do_operation(store, note, records, migration):
    """Do an operation: what is told of it, the records behind it, and the migration that it is, or None."""
    store.done.append((note, store.records, records, migration))
    store.undone = []
    store.records = records
    if migration is not None:
        begin_era(store, migration)


def put(store, name, record):
    """Put a record of the present layout into a store."""
    # The dicts of records are never changed: operations keep the ones ahead of them and behind them.
    records = {**store.records, name: record}
    do_operation(store, ("put", name, record), records, None)


def migrated(store, migration):
    """Migrate a store, and return the number of the new era."""
    records = {name: led_through(migration, record) for name, record in store.records.items()}
    do_operation(store, ("migrate", migration.steps), records, migration)
    return store.era


def do_told(store, thing):
    """Do an operation as it is told in notes, any object."""
    if not isinstance(thing, tuple) or len(thing) == 0 or not isinstance(thing[0], str):
        raise Mismatch("this is no operation")
    if LENGTHS.get(thing[0]) != len(thing):
        raise Mismatch("this is no operation")
    if thing[0] == "put":
        store[thing[1]] = thing[2]
    elif thing[0] == "drop":
        store.drop(thing[1])
    else:
        store.migrate(thing[1])


class Store:
    """A kind, a layout, and records of it under names."""

    def __init__(self, kind, layout, *, most=12):
        check_kind(kind)
        self.kind = kind
        self.most = most
        self.records = {}
        # For each era a number that no other one ever has, its layout, and the migration that began it.
        self.stages = [(0, layout, None)]
        self.begun = 0
        # For each operation what is told of it, the records ahead of it and behind it, and the migration that it is.
        self.done = []
        self.undone = []

    def __getitem__(self, at):
        check_there(self, at)
        return self.records[at]

    def __setitem__(self, at, worth):
        check_fits(self, self.layout, at, worth)
        put(self, at, worth)

    def __iter__(self):
        raise TypeError("a store is not gone through; names tells what it has")

    def __contains__(self, x):
        return has_record(self, x)

    def __len__(self):
        return len(self.records)

    def names(self):
        """Return the ascending list of the names."""
        return sorted([str(name) for name in self.records])

    def drop(self, name):
        """Drop a name and its record."""
        check_there(self, name)
        records = {other: record for other, record in self.records.items() if other != name}
        do_operation(self, ("drop", name), records, None)

    def migrate(self, steps):
        """Migrate the store by steps, and return the number of the new era."""
        return migrated(self, Migration(self.kind, self.layout, steps))

    @property
    def layout(self):
        """The present layout."""
        return self.stages[-1][1]

    def relayout(self, other):
        """Migrate the store to another layout, and return the number of the present era."""
        migration = migration_to(self.kind, self.layout, other)
        return self.era if other == self.layout else migrated(self, migration)

    @property
    def era(self):
        """The number of the present era."""
        return len(self.stages) - 1

    def undo(self):
        """Undo the last operation."""
        if not self.done:
            raise NoMark("there is nothing to undo")
        operation = self.done.pop()
        self.undone.append(operation)
        self.records = operation[1]
        if operation[3] is not None:
            self.stages.pop()

    def redo(self):
        """Do again what was undone last."""
        if not self.undone:
            raise NoMark("there is nothing to do again")
        operation = self.undone.pop()
        self.done.append(operation)
        self.records = operation[2]
        if operation[3] is not None:
            begin_era(self, operation[3])

    def eras(self):
        """Return the list of the layouts of the eras."""
        return [layout for _, layout, _ in self.stages]

    def notes(self):
        """Return the list of the operations that are done, in order."""
        return [operation[0] for operation in self.done]

    def view(self, era):
        """Return a view of an era."""
        if not is_integer(era) or not 0 <= era < len(self.stages):
            raise NoEra("there is no such era")
        return View(self, era, self.stages[era][0])

    def all_done(self, operations):
        """Do the operations of a list, all or none, and return the number of the present era."""
        records, undone = self.records, self.undone
        done, stages = list(self.done), list(self.stages)
        try:
            for operation in operations:
                do_told(self, operation)
        except LayoutError:
            self.records, self.undone = records, undone
            self.done, self.stages = done, stages
            raise
        return self.era


def check_present(view):
    """Raise NoEra if the era of a view has ended."""
    stages = view.store.stages
    if view.place >= len(stages) or stages[view.place][0] != view.begun:
        raise NoEra("the era of this view has ended")


def later_migrations(view):
    """Return the list of the migrations from the era of a view to the present one."""
    return [migration for _, _, migration in view.store.stages[view.place + 1:]]


class View:
    """What a store has, in the layout of one of its eras."""

    def __init__(self, store, place, begun):
        self.store = store
        self.place = place
        self.begun = begun

    def __getitem__(self, at):
        check_present(self)
        check_there(self.store, at)
        record = self.store.records[at]
        for migration in later_migrations(self)[::-1]:
            record = led_back_through(migration, record)
        return record

    def __setitem__(self, at, worth):
        check_present(self)
        check_fits(self.store, self.shape, at, worth)
        record = worth
        for migration in later_migrations(self):
            record = led_through(migration, record)
        put(self.store, at, record)

    def __iter__(self):
        raise TypeError("a view is not gone through; the store's names tell what it has")

    def __contains__(self, x):
        check_present(self)
        return has_record(self.store, x)

    def __len__(self):
        check_present(self)
        return len(self.store.records)

    @property
    def shape(self):
        """The layout of the era."""
        check_present(self)
        return self.store.stages[self.place][1]

    @property
    def era(self):
        """The number of the era."""
        check_present(self)
        return self.place
