"""Texts of kinds, layouts, trees, records and steps: read, and written in their one canonical form."""

from layoutswap.errors import NoKind, SyntaxProblem
from layoutswap.kinds import MOST_PARTS, is_kind
from layoutswap.layouts import MOST_DEGREE, Layout
from layoutswap.names import DIGITS, LETTERS, is_name

SPACES = " \t"
SIGNS = "()[],;.+*^"
LONGEST_INTEGER = 40
MOST_TAGS = 400
# How many integers stand behind the word of a step.
NUMBERS = {"open": 2, "close": 2, "move": 3, "turn": 3}


def run_end(text, at, signs):
    """Return where the signs of a sort, from a place in a text on, end."""
    while at < len(text) and text[at] in signs:
        at += 1
    return at


def token_end(text, at):
    """Return where what begins at a place in a text ends: a run of letters and digits, one of digits, or one sign."""
    if text[at] in LETTERS:
        return run_end(text, at, LETTERS + DIGITS)
    return run_end(text, at, DIGITS) if text[at] in DIGITS else at + 1


def is_integer_word(word):
    """Tell whether a word, not empty, is an integer."""
    if not all([sign in DIGITS for sign in word]):
        return False
    return len(word) <= LONGEST_INTEGER and (word == "0" or word[0] != "0")


def tokens_of(text):
    """Return the list of the (token, column) of a text, then of ("", the column behind the last character)."""
    found = []
    at = 0
    while at < len(text):
        end = token_end(text, at)
        word = text[at:end]
        if word not in SPACES:
            if not is_name(word) and not is_integer_word(word) and word not in SIGNS:
                raise SyntaxProblem(1, at + 1)
            found.append((word, at + 1))
        at = end
    return found + [("", len(text) + 1)]


class Reader:
    """The tokens of a text, which are taken from the left."""

    def __init__(self, text):
        self.tokens = tokens_of(text)
        self.at = 0

    def present(self):
        """Return the present token, "" behind the last one."""
        return self.tokens[self.at][0]

    def taken(self, fits):
        """Take the present token and return it; no text goes on with it if it does not fit."""
        token, column = self.tokens[self.at]
        if not fits:
            raise SyntaxProblem(1, column)
        self.at = self.at + 1
        return token

    def name(self):
        """Take a name."""
        return self.taken(is_name(self.present()))

    def integer(self):
        """Take an integer, as great as it may be."""
        return int(self.taken(self.present() != "" and is_integer_word(self.present())))

    def number_of_trees(self):
        """Take an integer that is the number of a record's trees."""
        fits = self.present() != "" and is_integer_word(self.present())
        return int(self.taken(fits and int(self.present()) <= MOST_DEGREE))

    def sign(self, wanted):
        """Take this sign or word."""
        return self.taken(self.present() == wanted)

    def goes_on_with(self, wanted):
        """Take this sign or word if it is the present token, and tell whether it is."""
        if self.present() != wanted:
            return False
        self.at = self.at + 1
        return True

    def finish(self, worth):
        """Return what was read, behind the last token."""
        self.taken(self.present() == "")
        return worth


def parse_kind(text):
    """Return the kind that a text tells."""
    reader = Reader(text)
    variants = [(reader.name(), reader.integer())]
    while reader.goes_on_with(","):
        variants.append((reader.name(), reader.integer()))
    kind = reader.finish(tuple(variants))
    if not is_kind(kind):
        raise NoKind("what the text tells is no kind")
    return kind


def read_power(reader):
    """Take t or t^K, and return its degree."""
    reader.sign("t")
    return reader.number_of_trees() if reader.goes_on_with("^") else 1


def read_term(reader):
    """Take a term, and return its factor and degree."""
    if reader.present() == "t":
        return (1, read_power(reader))
    factor = reader.integer()
    return (factor, read_power(reader) if reader.goes_on_with("*") else 0)


def parse_layout(text):
    """Return the layout that a text tells."""
    reader = Reader(text)
    terms = [read_term(reader)]
    while reader.goes_on_with("+"):
        terms.append(read_term(reader))
    reader.finish(terms)
    factors = [0 for _ in range(MOST_DEGREE + 1)]
    for factor, degree in terms:
        factors[degree] = factors[degree] + factor
    return Layout(factors)


def read_tree(reader):
    """Take a tree, and return it."""
    tags = 0
    # Tags whose parts are being read, each with those that it has up to now.
    waiting = []
    while True:
        tags += 1
        tree = (reader.taken(is_name(reader.present()) and tags <= MOST_TAGS),)
        if reader.goes_on_with("("):
            waiting.append(tree)
            continue
        while waiting:
            waiting[-1] = waiting[-1] + (tree,)
            if len(waiting[-1]) <= MOST_PARTS and reader.goes_on_with(","):
                break
            reader.sign(")")
            tree = waiting.pop()
        else:
            return tree


def parse_tree(text):
    """Return the tree that a text tells."""
    reader = Reader(text)
    return reader.finish(read_tree(reader))


def parse_record(text):
    """Return the record that a text tells."""
    reader = Reader(text)
    k = reader.number_of_trees()
    reader.sign(".")
    i = reader.integer()
    reader.sign("[")
    trees = []
    while len(trees) < k:
        if trees:
            reader.sign(",")
        trees.append(read_tree(reader))
    reader.sign("]")
    return reader.finish((k, i, tuple(trees)))


def read_step(reader):
    """Take a step, and return it."""
    word = reader.taken(reader.present() in NUMBERS)
    return (word,) + tuple([reader.integer() for _ in range(NUMBERS[word])])


def parse_steps(text):
    """Return the tuple of the steps that a text tells."""
    reader = Reader(text)
    if reader.goes_on_with("nothing"):
        return reader.finish(())
    steps = [read_step(reader)]
    while reader.goes_on_with(";"):
        steps.append(read_step(reader))
    return reader.finish(tuple(steps))


def format_kind(kind):
    """Return the text of a kind."""
    return ", ".join([f"{tag} {parts}" for tag, parts in kind])


def format_layout(layout):
    """Return the text of a layout."""
    return str(layout)


def format_tree(tree):
    """Return the text of a tree. It may be deep, so this does not call itself."""
    found = []
    waiting = [tree]
    while waiting:
        part = waiting.pop()
        if isinstance(part, str):
            found.append(part)
        else:
            found.append(part[0])
            if len(part) > 1:
                waiting.append(")")
            for place in reversed(range(1, len(part))):
                waiting.extend([part[place], ", " if place > 1 else "("])
    return "".join(found)


def format_record(record):
    """Return the text of a record."""
    k, i, trees = record
    told = ", ".join([format_tree(tree) for tree in trees])
    return f"{k}.{i}[{told}]"


def format_step(step):
    """Return the text of a step."""
    return " ".join([str(part) for part in step])


def format_steps(steps):
    """Return the text of some steps."""
    return "; ".join([format_step(step) for step in steps]) if len(steps) > 0 else "nothing"
