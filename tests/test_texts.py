"""Texts (points 2, 19 and 20, stage 12 of the interface)."""

import random
import re
import unittest

from layoutswap import texts
from layoutswap.errors import NoKind, SyntaxProblem
from layoutswap.kinds import is_kind
from layoutswap.layouts import Layout
from layoutswap.migrations import Migration
from layoutswap.records import numbered_record
from layoutswap.texts import (
    format_kind, format_layout, format_record, format_steps, format_tree, parse_kind, parse_layout, parse_record, parse_steps,
    parse_tree,
)
from layoutswap.trees import numbered_tree
from oracle import BINARY, KINDS, MOTZKIN, leaning
from test_finder import some_kinds
from test_migrations import walks

LEAF = ("leaf",)
JOIN = ("join", LEAF, LEAF)
TOKEN = re.compile(r"[a-z][a-z0-9]*|[0-9]+|[][(),;.+*^]|[ \t]")
# What is put into texts, and in place of their signs.
SIGNS = list("()[],;.+*^ \t\n019atz{}:-_#A\"'") + ["00", "t^2", "a" * 9, "9" * 41, "leaf", "nothing", "open"]


class Tokens:
    """The tokens of a text by the words of point 19, or the column of the first thing that is none."""

    def __init__(self, text):
        self.told, self.wrong, at = [], None, 0
        while at < len(text) and self.wrong is None:
            found = TOKEN.match(text, at)
            word = found and found.group()
            if not word or re.fullmatch(r"[a-z]\w{8,}|0\d+|\d{41,}", word):
                self.wrong = at + 1
            elif word not in " \t":
                self.told.append((word, at + 1))
            at += len(word or "x")


def written(tokens):
    """Tokens as a text in which n stands for each name but t, and i for each integer, with a space behind each."""
    return "".join(("n" if word[0].isalpha() else "i" if word[0].isdigit() else word) + " " for word in tokens)


def is_kind_text(tokens):
    return bool(re.fullmatch(r"n i (, n i )*", written(tokens)))


def is_layout_text(tokens):
    names = {word for word in tokens if word[0].isalpha()}
    powers = [word for ahead, word in zip(tokens, tokens[1:]) if ahead == "^"]
    right = re.fullmatch(r"(i (\* n (\^ i )?)?|n (\^ i )?)(\+ (i (\* n (\^ i )?)?|n (\^ i )?))*", written(tokens))
    return bool(right) and names <= {"t"} and all(int(word) <= 40 for word in powers)


def reduced(tokens):
    """The written tokens with T in place of whole trees."""
    text = re.sub(r"n (?!\()", "T ", written(tokens))
    while True:
        less = re.sub(r"n \( T (, T ){0,3}\) ", "T ", text)
        if less == text:
            return text
        text = less


def is_tree_text(tokens):
    return reduced(tokens) == "T "


def is_record_text(tokens):
    found = re.fullmatch(r"i \. i \[ ((?:T (?:, T )*)?)\] ", reduced(tokens))
    return bool(found) and int(tokens[0]) <= 40 and found.group(1).count("T") == int(tokens[0])


def is_steps_text(tokens):
    numbers = {"open": 2, "close": 2, "move": 3, "turn": 3}
    if list(tokens) == ["nothing"]:
        return True
    steps = "\n".join(tokens).split("\n;\n")
    return all(
        words and words[0] in numbers and len(words) == 1 + numbers[words[0]] and all(word.isdigit() for word in words[1:])
        for words in (step.split("\n") for step in steps)
    )


def endings(tokens):
    """What may stand behind tokens to make them a whole text."""
    simple = ["", "0", "a 0", "t", "* t", "^ 1", "1", "1 1", "1 1 1", "open 1 1", "a"]
    yield from (ending.split() for ending in simple)
    many = int(tokens[0]) if tokens and tokens[0].isdigit() and int(tokens[0]) <= 40 else 0
    for ahead in ("", "a", "[", "0 [", ". 0 [", "0 . 0 [", "( a", ", a"):
        for deep in range(tokens.count("(") + 2):
            for more in range(many + 1):
                inner = ahead.split() + [")"] * deep
                trees = ["a"] + [", a"] * (more - 1) if ahead.endswith("[") and more else [", a"] * more
                yield inner
                yield inner + " ".join(trees + ["]"]).split()


SORTS = (
    (parse_kind, is_kind_text), (parse_layout, is_layout_text), (parse_tree, is_tree_text), (parse_record, is_record_text),
    (parse_steps, is_steps_text),
)


def right_column(accepts, text):
    """The column at which a text does not go on, or None if it is whole."""
    tokens = Tokens(text)
    if tokens.wrong:
        return tokens.wrong
    words = [word for word, _ in tokens.told]
    if words and accepts(words):
        return None
    for many in range(1, len(words) + 1):
        if not any(accepts(words[:many] + ending) for ending in endings(words[:many])):
            return tokens.told[many - 1][1]
    return len(text) + 1


class Case(unittest.TestCase):
    def assert_problem(self, column, call, text):
        with self.assertRaises(SyntaxProblem, msg=text) as caught:
            call(text)
        self.assertEqual((caught.exception.line, caught.exception.column), (1, column), text)

    def check(self, call, accepts, text):
        """Compare what is told of a text with its right column; return whether it is whole."""
        column = right_column(accepts, text)
        if column is not None:
            self.assert_problem(column, call, text)
            return False
        try:
            call(text)
        except NoKind:
            self.assertIs(call, parse_kind)
        return True


def spaced(text, chance):
    """A text with other spaces between its tokens: of two words or integers at least one stays."""
    found = ""
    for part in re.findall(r"[a-z0-9]+|[^a-z0-9 ]| ", text):
        between = part == " " and found[-1:].isalnum()
        found += "".join(chance.choice((" ", "\t", "")) for _ in range(2)) + (chance.choice(" \t") if between else "")
        found += "" if part == " " else part
    return found + chance.choice(("", " ", "\t "))


class Canonical(Case):
    def test_kinds(self):
        chance = random.Random(1)
        for kind in KINDS + tuple(some_kinds(60, 3)):
            text = format_kind(kind)
            self.assertEqual(text, ", ".join(f"{tag} {parts}" for tag, parts in kind))
            self.assertEqual(parse_kind(text), kind)
            self.assertIs(type(parse_kind(text)), tuple)
            for _ in range(4):
                self.assertEqual(parse_kind(spaced(text, chance)), kind)
        self.assertEqual(format_kind((("leaf", 0), ("join", 2))), "leaf 0, join 2")

    def test_layouts(self):
        chance = random.Random(2)
        layouts = [Layout(()), Layout((1,)), Layout((0, 1)), Layout([0] * 40 + [1]), Layout([10 ** 39] * 41), Layout((5, 1, 0, 2))]
        for _ in range(60):
            layouts.append(Layout([chance.choice((0, 0, 1, 2, 17, 10 ** 20)) for _ in range(chance.randint(0, 41))]))
        for layout in layouts:
            text = format_layout(layout)
            self.assertEqual(text, str(layout))
            self.assertEqual(parse_layout(text), layout)
            self.assertIs(type(parse_layout(text)), Layout)
            for _ in range(4):
                self.assertEqual(parse_layout(spaced(text, chance)), layout)

    def test_like_terms_are_added_up(self):
        cases = [
            ("t+3 + 2*t ^2+ t", "2*t^2 + 2*t + 3"), ("0", "0"), ("0*t", "0"), ("0*t^40+0", "0"), ("t^0", "1"), ("3*t^0+t^1+1", "t + 4"),
            ("1*t^1", "t"), ("t^40+t^40", "2*t^40"), ("9" * 40 + "*t+1*t", "1" + "0" * 40 + "*t"), ("t+t+t", "3*t"), ("00"[:1] + "+ 1", "1"),
        ]
        for text, told in cases:
            self.assertEqual(str(parse_layout(text)), told)

    def test_trees_and_records(self):
        chance = random.Random(3)
        for kind in KINDS:
            for number in list(range(40)) + [10 ** 9, 10 ** 30]:
                tree = numbered_tree(kind, number)
                text = format_tree(tree)
                self.assertEqual(parse_tree(text), tree)
                self.assertEqual(parse_tree(spaced(text, chance)), tree)
                self.assertNotRegex(text, r" (?! *[a-z])|,(?! )")
                record = numbered_record(kind, Layout((2, 1, 3, 0, 1)), number)
                text = format_record(record)
                self.assertEqual(parse_record(text), record)
                self.assertEqual(parse_record(spaced(text, chance)), record)
        self.assertEqual([format_tree(LEAF), format_tree(JOIN)], ["leaf", "join(leaf, leaf)"])
        self.assertEqual(format_tree(("a", ("b", ("c", ("d",), ("e",))), ("f",))), "a(b(c(d, e)), f)")
        self.assertEqual(format_record((40, 10 ** 39, (LEAF,) * 40)), "40.1" + "0" * 39 + "[" + ", ".join(["leaf"] * 40) + "]")
        self.assertEqual(format_record((0, 7, ())), "0.7[]")
        self.assertEqual(parse_record("0.7[]"), (0, 7, ()))

    def test_steps(self):
        chance = random.Random(4)
        for migration in walks(5, 5):
            text = format_steps(migration.steps)
            self.assertEqual(parse_steps(text), migration.steps)
            for _ in range(3):
                self.assertEqual(parse_steps(spaced(text, chance)), migration.steps)
        self.assertEqual(format_steps((("open", 1, 2), ("close", 3, 4), ("move", 5, 0, 7), ("turn", 8, 9, 2))),
                         "open 1 2; close 3 4; move 5 0 7; turn 8 9 2")
        self.assertEqual([format_steps(()), format_steps([]), format_steps([("open", 1, 1)])], ["nothing", "nothing", "open 1 1"])
        self.assertEqual([parse_steps("nothing"), parse_steps(" \tnothing ")], [(), ()])
        # Whether they are steps of a layout is not asked.
        self.assertEqual(parse_steps("open 0 0;turn 99 0 " + "9" * 40), (("open", 0, 0), ("turn", 99, 0, 10 ** 40 - 1)))

    def test_large_things_that_were_returned(self):
        kind = (("a", 0), ("u", 1), ("c", 2))
        tall = Migration(kind, Layout((5000, 1, 5000)), [("close", 1, 1)] * 5000)
        record = tall((1, 0, (leaning(kind, 150, 0),)))
        text = format_record(record)
        self.assertEqual(text[:6], "1.0[u(")
        self.assertEqual((text.count("("), text.count(")"), text.count(", ")), (5149, 5149, 149))
        self.assertEqual(text[4:-1], format_tree(record[2][0]))


class Problems(Case):
    GOOD = (
        (0, ["leaf 0, join 2", "a 0,u 1 , c 2", "x 4, y 0", "a1 0, b 99999"]),
        (1, ["2*t^3 + t + 5", "t", "0", "12*t^40 + 3", "t^2+t^2"]),
        (2, ["leaf", "join(leaf, leaf)", "a(b(c, d(e)), f, g, h)", "x(y,y,y,y)", "t"]),
        (3, ["2.0[leaf, join(leaf, leaf)]", "0.7[]", "1.12[a(b)]", "4.3[a, b(c,d), e, f]", "6.0[a, b, c, d, e, f]"]),
        (4, ["nothing", "open 1 2", "open 1 2; turn 3 1 2", "move 0 0 1;close 12 3", "turn 2 1 2"]),
    )

    def test_one_sign_changed_put_in_or_left_out(self):
        whole = 0
        many = 0
        for sort, good in self.GOOD:
            call, accepts = SORTS[sort]
            for text in good:
                self.assertIsNone(right_column(accepts, text))
                changed = {text[:at] + text[at + 1:] for at in range(len(text))}
                for at in range(len(text) + 1):
                    changed |= {text[:at] + sign + text[at + 1:] for sign in SIGNS}
                    changed |= {text[:at] + sign + text[at:] for sign in SIGNS}
                    changed |= {text[:at], text[at:]}
                for thing in sorted(changed):
                    whole += self.check(call, accepts, thing)
                many += len(changed)
        self.assertGreater(whole, 500)
        self.assertGreater(many - whole, 5000)

    def test_texts_of_another_sort(self):
        for sort, (call, accepts) in enumerate(SORTS):
            for other, good in self.GOOD:
                for text in good:
                    self.check(call, accepts, text)

    def test_texts_by_chance(self):
        chance = random.Random(6)
        words = "t a leaf nothing open move 0 1 2 3 40 41 ( ) [ ] , ; . + * ^".split()
        for call, accepts in SORTS:
            for _ in range(1500):
                text = " ".join(chance.choice(words) for _ in range(chance.randint(0, 6)))
                self.check(call, accepts, text)

    def test_columns(self):
        cases = [
            (parse_kind, "", 1), (parse_kind, "  ", 3), (parse_kind, "leaf", 5), (parse_kind, "leaf 0,", 8), (parse_kind, "leaf 0 join", 8),
            (parse_kind, "leaf, 0", 5), (parse_kind, "leaf 0, 1", 9), (parse_kind, "0", 1), (parse_kind, "leaf 00", 6),
            (parse_kind, "abcdefghi 0", 1), (parse_kind, "leaf 0 , Join 2", 10), (parse_kind, "leaf 0\n", 7), (parse_kind, "leaf -1", 6),
            (parse_kind, "1 leaf\n", 7), (parse_layout, "t^41", 3), (parse_layout, "t^40 t", 6), (parse_layout, "2t", 2), (parse_layout, "t2", 1),
            (parse_layout, "2*3", 3), (parse_layout, "t*2", 2), (parse_layout, "t^t", 3), (parse_layout, "t + ", 5), (parse_layout, "+t", 1),
            (parse_layout, "t-1", 2), (parse_layout, "9" * 41, 1), (parse_layout, "x", 1), (parse_layout, "t^", 3), (parse_layout, "3*", 3),
            (parse_tree, "leaf()", 6), (parse_tree, "a(b,c,d,e,f)", 10), (parse_tree, "a(b", 4), (parse_tree, "a(b))", 5), (parse_tree, "a b", 3),
            (parse_tree, "a,b", 2), (parse_tree, "a(b,)", 5), (parse_tree, "(a)", 1), (parse_tree, "a(b(c,d)e)", 9), (parse_tree, "a(1)", 3),
            (parse_record, "41.0[]", 1), (parse_record, "1.0[a, b]", 6), (parse_record, "1.0[]", 5), (parse_record, "0.0[a]", 5),
            (parse_record, "2.0[a]", 6), (parse_record, "1,0[a]", 2), (parse_record, "1.0", 4), (parse_record, "1.0[a", 6),
            (parse_record, "1.0[a]]", 7), (parse_record, "1.01[a]", 3), (parse_record, "0.0[] ;", 7), (parse_record, "1.x[a]", 3),
            (parse_steps, "", 1), (parse_steps, "nothing;", 8), (parse_steps, "nothing 1", 9), (parse_steps, "open 1", 7),
            (parse_steps, "open 1 2 3", 10), (parse_steps, "open 1 2;", 10), (parse_steps, "open 1 2; nothing", 11), (parse_steps, "open12", 1),
            (parse_steps, "open 1 2, close 1 2", 9), (parse_steps, "Open 1 2", 1), (parse_steps, "turn 1 2", 9), (parse_steps, "move 1 2 x", 10),
            (parse_steps, "open 1 2 ; openn 1 2", 12), (parse_steps, "open 1 02", 8),
        ]
        for call, text, column in cases:
            self.assert_problem(column, call, text)

    def test_what_is_no_token_comes_first(self):
        for call, _ in SORTS:
            self.assert_problem(3, call, ") #")
            self.assert_problem(4, call, "(((" + "00")
            self.assert_problem(1, call, "\n")
            self.assert_problem(2, call, " abcdefghi1")
            self.assert_problem(5, call, ", , " + "1" * 41)
            self.assert_problem(1, call, "9" * 9999 + "!")

    def test_kinds_that_are_none(self):
        for text in ("a 0", "a 0, b 1", "a 2, b 2", "a 0, a 2", "a 0, b 5", "a 0, b 9999999999", ", ".join(f"a{at} 0" for at in range(8)),
                     ", ".join(f"a{at} {at % 3}" for at in range(9))):
            self.assertRaises(NoKind, parse_kind, text)
        self.assertTrue(is_kind(parse_kind("a 0, b 4")))
        # The text is read to its end first.
        self.assert_problem(9, parse_kind, "a 0, a 0;")
        self.assert_problem(10, parse_kind, "a 0, b 5,")


class Tags(Case):
    def test_just_400_tags(self):
        flat = "a(" + ",".join("b" for _ in range(4)) + ")"
        chain = "a(" * 399 + "b" + ")" * 399
        self.assertEqual(format_tree(parse_tree(chain)), chain)
        self.assertEqual(parse_tree(flat), ("a", ("b",), ("b",), ("b",), ("b",)))
        for depth in (400, 401, 500):
            self.assert_problem(801, parse_tree, "a(" * depth + "b" + ")" * depth)
        wide = "r(" + ",".join("a(" * 98 + "b" + ")" * 98 for _ in range(4)) + ")"
        self.assertEqual(parse_tree(wide)[0], "r")
        # 397 tags are there; three more may come, and the next one is told.
        more = wide[:-99] + "(c,d,e)" + wide[-99:]
        self.assertEqual(format_tree(parse_tree(more)).count("b"), 4)
        beyond = wide[:-99] + "(c,d,e,f)" + wide[-99:]
        self.assert_problem(beyond.index("f") + 1, parse_tree, beyond)
        self.assert_problem(len(wide) - 99 + 8, parse_tree, wide[:-99] + "(c,d,e,)" + wide[-99:])

    def test_each_tree_of_a_record_has_its_own_tags(self):
        chain = "a(" * 399 + "b" + ")" * 399
        text = f"3.0[{chain},{chain},{chain}]"
        self.assertEqual(parse_record(text)[2][2], parse_tree(chain))
        self.assert_problem(4 + 2 * (len(chain) + 1) + 801, parse_record, f"3.0[{chain},{chain},a({chain})]")


class TheInterface(Case):
    def test_the_example(self):
        record = parse_record("2.0[ leaf,join(leaf , leaf)]")
        self.assertEqual([record, format_record(record)], [(2, 0, (LEAF, JOIN)), "2.0[leaf, join(leaf, leaf)]"])
        self.assertEqual([parse_kind("leaf 0,join 2"), str(parse_layout("t+3 + 2*t ^2+ t"))], [BINARY, "2*t^2 + 2*t + 3"])
        self.assertEqual(parse_steps("open 1 2;turn 3 1 2"), (("open", 1, 2), ("turn", 3, 1, 2)))
        self.assertEqual([format_steps(()), format_record((0, 7, ()))], ["nothing", "0.7[]"])

    def test_it_is_defined_in_its_file(self):
        for sort in "kind layout tree record steps".split():
            for word in ("parse", "format"):
                self.assertEqual(getattr(texts, f"{word}_{sort}").__module__, "layoutswap.texts")
        self.assertEqual(parse_kind(format_kind(MOTZKIN)), MOTZKIN)


if __name__ == "__main__":
    unittest.main()
