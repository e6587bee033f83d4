"""The console: a store that lines of text command."""

from layoutswap.alike import first_difference
from layoutswap.errors import InvalidCommand
from layoutswap.fewest import distance
from layoutswap.layouts import Layout
from layoutswap.migrations import Migration
from layoutswap.names import DIGITS
from layoutswap.records import how_many_records
from layoutswap.rests import Rest, are_like, multiple, period
from layoutswap.store import Store
from layoutswap.texts import (
    format_kind, format_layout, format_record, format_steps, parse_kind, parse_layout, parse_record, parse_steps,
)

FIRST_KIND = (("leaf", 0), ("join", 2))
GREATEST_NUMBER = 10 ** 6
GREATEST_SIZE = 40
# What stands behind the word of a command: its other words, and its texts.
FORMS = {
    "open": ((), ("KIND", "LAYOUT")),
    "kind": ((), ()),
    "layout": ((), ()),
    "era": ((), ()),
    "eras": ((), ()),
    "names": ((), ()),
    "notes": ((), ()),
    "get": (("NAME",), ()),
    "see": (("N", "NAME"), ()),
    "put": (("NAME",), ("RECORD",)),
    "write": (("N", "NAME"), ("RECORD",)),
    "drop": (("NAME",), ()),
    "undo": ((), ()),
    "redo": ((), ()),
    "migrate": ((), ("STEPS",)),
    "relayout": ((), ("LAYOUT",)),
    "like": ((), ("LAYOUT",)),
    "multiple": ((), ("LAYOUT",)),
    "rest": ((), ("LAYOUT",)),
    "period": ((), ()),
    "count": (("SIZE",), ()),
    "differ": ((), ("STEPS", "STEPS")),
    "distance": (("N", "N"), ("LAYOUT",)),
}


def lines_of(lines):
    """Return the answer of some lines."""
    return "\n".join(lines) if len(lines) > 0 else "nothing"


def number_or_none(number):
    """Return the text of a number, or the word none."""
    return "none" if number is None else str(number)


def note_text(note):
    """Return the line of an operation."""
    if note[0] == "put":
        return f"put {note[1]} : {format_record(note[2])}"
    return f"drop {note[1]}" if note[0] == "drop" else f"migrate : {format_steps(note[1])}"


def begin(console, kind, layout):
    """Put a new store in the place of the old one."""
    console.store = Store(kind, layout)
    return "ok"


def tell_kind(console):
    """Answer the text of the kind."""
    return format_kind(console.store.kind)


def tell_layout(console):
    """Answer the present layout."""
    return format_layout(console.store.layout)


def tell_era(console):
    """Answer the number of the present era."""
    return str(console.store.era)


def tell_eras(console):
    """Answer the layouts of all eras."""
    return lines_of([format_layout(layout) for layout in console.store.eras()])


def tell_names(console):
    """Answer the names."""
    names = console.store.names()
    return " ".join(names) if len(names) > 0 else "nothing"


def tell_notes(console):
    """Answer the operations."""
    return lines_of([note_text(note) for note in console.store.notes()])


def get_record(console, name):
    """Answer the record under a name."""
    return format_record(console.store[name])


def see_record(console, era, name):
    """Answer the record under a name through the view of an era."""
    view = console.store.view(era)
    return format_record(view[name])


def put_record(console, name, record):
    """Put a record under a name."""
    console.store[name] = record
    return "ok"


def write_record(console, era, name, record):
    """Put a record under a name through the view of an era."""
    view = console.store.view(era)
    view[name] = record
    return "ok"


def drop_name(console, name):
    """Drop a name."""
    console.store.drop(name)
    return "ok"


def undo_last(console):
    """Undo an operation."""
    console.store.undo()
    return "ok"


def redo_last(console):
    """Do an operation again."""
    console.store.redo()
    return "ok"


def migrate_store(console, steps):
    """Migrate the store by steps."""
    return str(console.store.migrate(steps))


def relayout_store(console, layout):
    """Migrate the store to a layout."""
    return str(console.store.relayout(layout))


def tell_like(console, layout):
    """Answer whether the present layout and another one are like."""
    return "yes" if are_like(console.store.kind, console.store.layout, layout) else "no"


def tell_multiple(console, layout):
    """Answer the multiple of the present layout and another one."""
    return number_or_none(multiple(console.store.kind, console.store.layout, layout))


def tell_rest(console, layout):
    """Answer the rest of a layout."""
    return str(Rest.of(console.store.kind, layout))


def tell_period(console):
    """Answer the period of the kind."""
    return number_or_none(period(console.store.kind))


def tell_count(console, size):
    """Answer how many records of a size there are."""
    return str(how_many_records(console.store.kind, console.store.layout, size))


def tell_difference(console, steps, others):
    """Answer the first record that two migrations lead to two."""
    kind, layout = console.store.kind, console.store.layout
    one = Migration(kind, layout, steps)
    found = first_difference(one, Migration(kind, layout, others))
    return "none" if found is None else format_record(found)


def tell_distance(console, places, degree, layout):
    """Answer the distance of the present layout and another one within bounds."""
    return number_or_none(distance(console.store.kind, console.store.layout, layout, places, degree))


ACTIONS = {
    "open": begin,
    "kind": tell_kind,
    "layout": tell_layout,
    "era": tell_era,
    "eras": tell_eras,
    "names": tell_names,
    "notes": tell_notes,
    "get": get_record,
    "see": see_record,
    "put": put_record,
    "write": write_record,
    "drop": drop_name,
    "undo": undo_last,
    "redo": redo_last,
    "migrate": migrate_store,
    "relayout": relayout_store,
    "like": tell_like,
    "multiple": tell_multiple,
    "rest": tell_rest,
    "period": tell_period,
    "count": tell_count,
    "differ": tell_difference,
    "distance": tell_distance,
}


def parts_of_line(line):
    """Return the words of a line, and the list of its one or two texts, if it has any."""
    head, sign, rest = line.partition(" : ")
    words = head.split(" ")
    if sign == "":
        return (words, [])
    first, between, second = rest.partition(" : ")
    # Only where two texts are told does the second sign part them; elsewhere it belongs to the text.
    if between != "" and len(FORMS.get(words[0], ((), ()))[1]) == 2:
        return (words, [first, second])
    return (words, [rest])


def tells_up_to(most, word):
    """Tell whether a word is an integer from 0 to a greatest one, without leading zeros."""
    if not all([sign in DIGITS for sign in word]) or len(word) > len(str(most)):
        return False
    return (word == "0" or word[0] != "0") and int(word) <= most


def word_fits(form, word):
    """Tell whether a word, not empty, has a form."""
    if form == "NAME":
        return True
    return tells_up_to(GREATEST_SIZE if form == "SIZE" else GREATEST_NUMBER, word)


def read_word(form, word):
    """Return what a word of a form tells."""
    return word if form == "NAME" else int(word)


def read_text(form, text):
    """Return what a text of a form tells."""
    if form == "KIND":
        return parse_kind(text)
    if form == "LAYOUT":
        return parse_layout(text)
    return parse_record(text) if form == "RECORD" else parse_steps(text)


def is_command(words, texts):
    """Tell whether words and texts are those of a command."""
    if words[0] not in FORMS:
        return False
    forms, text_forms = FORMS[words[0]]
    if len(words) - 1 != len(forms) or len(texts) != len(text_forms) or "" in words:
        return False
    return all([word_fits(form, word) for form, word in zip(forms, words[1:])])


class Console:
    """A store, and the commands that it is told."""

    def __init__(self):
        self.store = Store(FIRST_KIND, Layout.trees(1))

    def execute(self, line):
        """Do the command of a line, and return its answer."""
        words, texts = parts_of_line(line)
        if not is_command(words, texts):
            raise InvalidCommand("this is no command")
        forms, text_forms = FORMS[words[0]]
        told = [read_word(form, word) for form, word in zip(forms, words[1:])]
        told = told + [read_text(form, text) for form, text in zip(text_forms, texts)]
        action = ACTIONS[words[0]]
        return action(self, *told)
