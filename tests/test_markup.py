"""Marked texts: points 4.1 to 4.6, 0.2 and 0.3."""

import itertools
import random
import re
import unittest

from galleypapers.errors import MarkError
from galleypapers.markup import read, write
from tests.helper import call, fault

MARKS = "\\*{}^@#~|"
CHARACTERS = "".join(chr(code) for code in range(32, 127) if code != 37)
LABEL = "abcdefghijklm016"
TIE = ("tie",)


def text(signs, use="text"):
    return ("text", use, signs)


def strong(signs):
    return text(signs, "strong")


def para(*runs):
    return ("para", list(runs))


class TestRead(unittest.TestCase):
    def reads(self, signs, *blocks):
        self.assertEqual(call(self, read, signs), list(blocks))

    def runs(self, signs, *runs):
        """A paragraph, an item and a cell have these runs."""
        self.reads(signs, ("para", list(runs)))
        self.reads("- " + signs, ("item", 1, list(runs)))
        self.reads(f"|{signs}|", ("table", [[list(runs)]]))

    def test_example(self):
        self.reads("# One#a\nsee *this* @a^{a note}",
                   ("head", 1, [text("One")], "a"),
                   para(text("see "), strong("this"), text(" "), ("ref", "a"), ("note", [text("a note")])))

    def test_empty_lines(self):
        self.reads("")
        self.reads("\n\n\n")
        self.reads("a", para(text("a")))
        self.reads("\na\nb\n\n\nc\n", para(text("a")), para(text("b")), para(text("c")))
        # A line of spaces is not empty.
        self.reads(" \n", para(text(" ")))

    def test_heads(self):
        self.reads("# One", ("head", 1, [text("One")], ""))
        self.reads("## One two#b1", ("head", 2, [text("One two")], "b1"))
        self.reads("#  a #b", ("head", 1, [text(" a ")], "b"))
        self.reads("# \\# \\*\\\\", ("head", 1, [text("# *\\")], ""))
        self.reads("# - a", ("head", 1, [text("- a")], ""))
        self.reads(f"## a#{LABEL}", ("head", 2, [text("a")], LABEL))

    def test_items(self):
        self.reads("- a", ("item", 1, [text("a")]))
        self.reads("-- a", ("item", 2, [text("a")]))
        self.reads("-  a\n--  ", ("item", 1, [text(" a")]), ("item", 2, [text(" ")]))
        self.reads("- - a", ("item", 1, [text("- a")]))
        self.reads("- ~", ("item", 1, [TIE]))

    def test_floats(self):
        self.reads("#float 12 {a b}#c", ("float", 12, [text("a b")], "c"))
        self.reads("#float 0 {}", ("float", 0, [], ""))
        self.reads("#float 999999 {*a*~@b@@c}", ("float", 999999, [strong("a"), TIE, ("ref", "b"), ("page", "c")], ""))
        self.reads("#float 7 {\\}\\#}#a", ("float", 7, [text("}#")], "a"))

    def test_bare_lines(self):
        self.reads("#page\n#contents\n#index", ("page",), ("contents",), ("index",))
        self.reads("page", para(text("page")))

    def test_tables(self):
        self.reads("|a|", ("table", [[[text("a")]]]))
        self.reads("||", ("table", [[[]]]))
        self.reads("|||||", ("table", [[[], [], [], []]]))
        self.reads("|a|b|\n|c||", ("table", [[[text("a")], [text("b")]], [[text("c")], []]]))
        self.reads("|a|\n\n|b|c|", ("table", [[[text("a")]]]), ("table", [[[text("b")], [text("c")]]]))
        self.reads("x\n|a|\n|b|\ny\n|c|\n|d|", para(text("x")), ("table", [[[text("a")]], [[text("b")]]]),
                   para(text("y")), ("table", [[[text("c")]], [[text("d")]]]))
        self.reads("|a|\n#page\n|b|c|", ("table", [[[text("a")]]]), ("page",), ("table", [[[text("b")], [text("c")]]]))
        self.reads("| a |- b|\\# c|", ("table", [[[text(" a ")], [text("- b")], [text("# c")]]]))
        self.reads("|a\\|b|", ("table", [[[text("a|b")]]]))

    def test_paragraphs(self):
        for line in ["-", "--", "-a", "--a", "--- a", " - a", "a - b", "a", "float 5"]:
            self.reads(line, para(text(line)))
        self.reads(" \\# a", para(text(" # a")))
        self.reads("\\# a", para(text("# a")))
        self.reads("\\|a", para(text("|a")))

    def test_texts(self):
        self.runs("a b  c", text("a b  c"))
        self.runs("".join("\\" + mark for mark in MARKS), text(MARKS))
        self.runs("a\\*b\\*", text("a*b*"))
        self.runs("".join("\\" + sign if sign in MARKS else sign for sign in CHARACTERS), text(CHARACTERS))

    def test_strong_parts(self):
        self.runs("*a*", strong("a"))
        self.runs("a*b*c", text("a"), strong("b"), text("c"))
        self.runs("*a**b*", strong("a"), strong("b"))
        self.runs("*a~b @c*", strong("a"), TIE, strong("b "), ("ref", "c"))
        self.runs("*~*", TIE)
        self.runs("*@a*", ("ref", "a"))
        self.runs("*\\**", strong("*"))

    def test_notes(self):
        self.runs("a^{b}", text("a"), ("note", [text("b")]))
        self.runs("^{}", ("note", []))
        self.runs("^{a~b@c @@d*e*f}", ("note", [text("a"), TIE, text("b"), ("ref", "c"), text(" "), ("page", "d"),
                                                strong("e"), text("f")]))
        self.runs("^{a}^{b}", ("note", [text("a")]), ("note", [text("b")]))
        # Texts of notes in strong parts are not strong, but strong parts of such notes are.
        self.runs("*a^{b *c* d}e*", strong("a"), ("note", [text("b "), strong("c"), text(" d")]), strong("e"))
        self.runs("*^{}*", ("note", []))
        self.runs("^{!a}", ("note", [text("!a")]))

    def test_marks_of_the_index(self):
        self.runs("^!{a b}", ("mark", "a b"))
        self.runs("^!{\\}\\~}x", ("mark", "}~"), text("x"))
        self.runs("*a^!{b}*", strong("a"), ("mark", "b"))
        self.runs("^!{!\\{}", ("mark", "!{"))

    def test_references(self):
        self.runs("@a", ("ref", "a"))
        self.runs("@@a", ("page", "a"))
        self.runs("@a1b@@c2@d", ("ref", "a1b"), ("page", "c2"), ("ref", "d"))
        self.runs("@aB@a-@a @a~", ("ref", "a"), text("B"), ("ref", "a"), text("-"), ("ref", "a"), text(" "),
                  ("ref", "a"), TIE)
        self.runs(f"@{LABEL}", ("ref", LABEL))
        self.runs("\\@@a\\@a", text("@"), ("ref", "a"), text("@a"))

    def test_ties(self):
        self.runs("a~b", text("a"), TIE, text("b"))
        self.runs("~~ ~", TIE, TIE, text(" "), TIE)


class TestErrors(unittest.TestCase):
    """Point 4.5."""

    def wrong(self, signs, column, line=1):
        error = fault(self, MarkError, read, signs)
        self.assertEqual((error.line, error.column), (line, column), signs)

    def wrong_runs(self, signs, column):
        self.wrong(signs, column)
        self.wrong("- " + signs, column + 2)

    def test_lines(self):
        self.wrong("a\n\nb*", 3, 3)
        self.wrong("a\n#x\n#y", 1, 2)
        self.wrong("\n\n\n{", 1, 4)
        self.wrong("|a|\n|b", 3, 2)

    def test_lines_that_begin_with_a_sharp(self):
        for line in ["#", "##", "###", "### a", "#a", "##a", "#1", "#page ", "#pages", "#Page", "#contents.", "#index#a",
                     "#indexes", "#float", "#floats 5 {}", "#float{}", "##float 5 {}", "#\\a", "#*", "##page", "#~"]:
            with self.subTest(line):
                self.wrong(line, 1)

    def test_characters(self):
        for sign in ["%", "\t", "\r", "\x00", "\x7f", "\xe4", "\u2028"]:
            for line, column in [("{}", 1), ("a{}", 2), ("# a{}", 4), ("*a{}*", 3), ("a^{{b{}}}", 5), ("^!{{b{}}}", 5),
                                 ("#float 5 {{a{}", 12), ("|{}|", 2), ("\\{}", 1), ("@{}", 2), ("@a{}", 3), ("^{}", 1)]:
                with self.subTest((sign, line)):
                    self.wrong(line.format(sign), column)

    def test_marks_that_cannot_stand_there(self):
        for line, column in [("a{", 2), ("}", 1), ("a}b", 2), ("a#", 2), ("a#b", 2), ("a|", 2), ("a|b|", 2), ("{}", 1),
                             ("^{a}}", 5), ("^{{}", 3), ("^{a#}", 4), ("^{|}", 3), ("*a#*", 3), ("*|*", 2)]:
            with self.subTest(line):
                self.wrong_runs(line, column)
        self.wrong("|a#|", 3)
        self.wrong("|*a|b*|", 4)
        self.wrong("|^{a|b}|", 5)

    def test_plain_marks(self):
        for line, column in [("\\", 1), ("a\\", 2), ("\\a", 1), ("\\ *", 1), ("\\\\\\", 3), ("a\\b\\c", 2), ("*\\a*", 2),
                             ("^{\\}", 5), ("^{\\b}", 3), ("^!{\\!}", 4), ("\\\n", 1), ("\\!", 1), ("\\-", 1)]:
            with self.subTest(line):
                self.wrong_runs(line, column)
        self.wrong("# \\", 3)
        self.wrong("#float 5 {\\", 11)
        self.wrong("|\\", 2)
        self.wrong("|a\\|", 5)

    def test_notes_and_marks(self):
        for line, column in [("^", 1), ("a^", 2), ("^a", 1), ("^!", 1), ("^!a", 1), ("^!!{a}", 1), ("^ {a}", 1),
                             ("^^{a}", 1), ("^{", 3), ("^{a", 4), ("^!{", 4), ("^!{a", 5), ("^!{}", 4), ("^!{a*b*}", 5),
                             ("^!{~}", 4), ("^!{@a}", 4), ("^!{{}", 4), ("^!{^{}}", 4), ("^{a^{b}}", 4), ("^{^!{b}}", 3),
                             ("^{^", 3), ("*^*", 2), ("*^{^{}}*", 4), ("^{*^{}*}", 4), ("^\\{a}", 1), ("^!\\{a}", 1)]:
            with self.subTest(line):
                self.wrong_runs(line, column)

    def test_strong_parts(self):
        for line, column in [("*", 2), ("**", 2), ("a**", 3), ("*a", 3), ("a*b**c**", 9), ("*a***", 5), ("^{*a}", 5),
                             ("^{**}", 4), ("*a^{b*c}d*", 8), ("*a^{b*c", 8), ("*a^{b}", 7), ("*a}*", 3), ("*^{**}*", 5)]:
            with self.subTest(line):
                self.wrong_runs(line, column)
        self.wrong("|*|", 3)
        self.wrong("#float 5 {*}*}", 12)

    def test_labels(self):
        long = LABEL + "x"
        for line, column in [("@", 2), ("@@", 3), ("@@@a", 3), ("@ a", 2), ("@A", 2), ("@1", 2), ("@@1a", 3), ("@*a*", 2),
                             ("@" + long, 2), ("a @@" + long + long, 5), ("@1" + long, 2), ("*@*", 3), ("^{@}", 4)]:
            with self.subTest(line):
                self.wrong_runs(line, column)
        for label in ["", "1", "A", " a", "1a", long, "#a", "\\a"]:
            with self.subTest(label):
                self.wrong("# b#" + label, 5)
                self.wrong("#float 5 {}#" + label, 13)

    def test_heads(self):
        for line, column in [("# ", 3), ("## ", 4), ("# #a", 3), ("## #a", 4), ("# *a*", 3), ("# a*b*", 4), ("# a@b", 4),
                             ("# a^{b}", 4), ("# a~b", 4), ("# ~", 3), ("# a|b", 4), ("# a#b c", 6), ("# a#b#c", 6),
                             ("# a#bC", 6), ("# # a", 3), ("# a{", 4), ("# a#b*", 6)]:
            with self.subTest(line):
                self.wrong(line, column)

    def test_items(self):
        self.wrong("- ", 3)
        self.wrong("-- ", 4)
        self.wrong("a\n- \n", 3, 2)
        self.wrong("- #", 3)
        self.wrong("- |a|", 3)

    def test_floats(self):
        for line, column in [
                ("#float ", 8), ("#float {}", 8), ("#float  5 {}", 8), ("#float x {}", 8), ("#float -5 {}", 8),
                ("#float 1000000 {}", 8), ("#float 0000001 {}", 8), ("#float 5", 9), ("#float 5{}", 9),
                ("#float 5x {}", 9), ("#float 5 ", 10), ("#float 5 x{}", 10), ("#float 5  {}", 10), ("#float 5 {", 11),
                ("#float 5 {a", 12), ("#float 5 {}a", 12), ("#float 5 {} #a", 12), ("#float 5 {}}", 12),
                ("#float 5 {}#a ", 14), ("#float 5 {}#a#b", 14), ("#float 5 {^{a}}", 11), ("#float 5 {^!{a}}", 11),
                ("#float 5 {^}", 11), ("#float 5 {a*b^{c}*}", 14), ("#float 5 {a|b}", 12), ("#float 5 {#}", 11),
                ("#float 5.0 {}", 9)]:
            with self.subTest(line):
                self.wrong(line, column)

    def test_tables(self):
        for line, column in [("|", 2), ("|a", 3), ("|a|b", 5), ("|a||b", 6), ("||||||", 7), ("|a|b|c|d|e|", 12),
                             ("|a|b|c|d|e", 11), ("|a|b|c|d|e|}|", 12), ("|a|}|b|c|d|e|", 4), ("|a|#", 4)]:
            with self.subTest(line):
                self.wrong(line, column)
        self.wrong("|a|b|\n|c|", 4, 2)
        self.wrong("|a|b|\n|c|d|e|", 8, 2)
        self.wrong("|a|\n|b|\n|c|d|\n|", 6, 3)
        self.wrong("|a|\n|", 2, 2)
        self.wrong("|a|b|\n|c}|", 3, 2)


# The lines of point 4.3, as regular expressions: another way to tell which are without a fault.
SIGN = r"(?:[^\\*{}^@#~|]|\\[\\*{}^@#~|])"
RUN = rf"(?:{SIGN}+|@@?[a-z][a-z0-9]{{0,15}}(?![a-z0-9])|~)"
INNER = rf"(?:{RUN}|\*{RUN}+\*)"
NOTES = rf"(?:\^\{{{INNER}*\}}|\^!\{{{SIGN}+\}})"
OUTER = rf"(?:{RUN}|{NOTES}|\*(?:{RUN}|{NOTES})+\*)"
LAST = r"(?:#[a-z][a-z0-9]{0,15})?"
LINE = re.compile(rf"##? {SIGN}+{LAST}|--? {OUTER}+|#float [0-9]{{1,6}} \{{{INNER}*\}}{LAST}|#page|#contents|#index"
                  rf"|\|(?:{OUTER}*\|){{1,4}}|(?!#|\||--? ){OUTER}+|")

# Ends of lines with which what is open can be closed.
ENDS = ["".join(parts) for parts in itertools.product(
    ["", "a", "{a}", "{}", " {}", "5 {}", "*"], ["", "*", "}", "*}", "}*", "*}*"], ["", "|"])]
WORDS = ["a", "b", " ", "1", "-", "!", "*", "*", "{", "}", "}", "^{", "^!{", "^", "@", "@a", "#", "~", "|", "\\", "\\*",
         "\\\\", "X"]
OPENINGS = ["", "", "", "# ", "## ", "- ", "-- ", "|", "|a|", "#float 5 {", "#float "]


def column_of(line):
    """The column at which a line breaks a rule, by trying how its beginnings can go on; or None."""
    if LINE.fullmatch(line):
        return None
    opening = re.match("(?!#)|##? |#float ", line)
    if opening is None:
        return 1
    end = opening.end() + 1
    while end <= len(line) and any(LINE.fullmatch(line[:end] + rest) for rest in ENDS):
        end += 1
    good = line[:end - 1]
    started = re.search(r"(?<!\\)(?:\\\\)*(\\|\^!?)$", good)
    return started.start(1) + 1 if started else end


class TestManyLines(unittest.TestCase):
    def test_many(self):
        chance = random.Random(9)
        found = {True: 0, False: 0}
        for _ in range(4000):
            line = chance.choice(OPENINGS)
            line += "".join(chance.choice(WORDS) for _ in range(chance.randint(0, 7))) + chance.choice(["", "}", "|"])
            column = column_of(line)
            found[column is None] += 1
            if column is None:
                document = call(self, read, line)
                self.assertEqual(len(document), 1 if line else 0)
            else:
                error = fault(self, MarkError, read, line)
                self.assertEqual((error.line, error.column), (1, column), line)
        self.assertGreater(min(found.values()), 200)


class TestWrite(unittest.TestCase):
    """Point 4.6."""

    def writes(self, block, line):
        self.assertEqual(call(self, write, [block]), line + "\n\n")
        self.assertEqual(read(line + "\n\n"), [block])

    def test_blocks(self):
        self.writes(("head", 1, [text("One")], ""), "# One")
        self.writes(("head", 2, [text("One two")], "b1"), "## One two#b1")
        self.writes(para(text("a")), "a")
        self.writes(("item", 1, [text("a")]), "- a")
        self.writes(("item", 2, [text("a"), TIE]), "-- a~")
        self.writes(("float", 12, [text("a")], "c"), "#float 12 {a}#c")
        self.writes(("float", 0, [], ""), "#float 0 {}")
        self.writes(("float", 999999, [], ""), "#float 999999 {}")
        self.writes(("page",), "#page")
        self.writes(("contents",), "#contents")
        self.writes(("index",), "#index")
        self.writes(("table", [[[text("a")], []], [[], [text("b"), TIE]]]), "|a||\n||b~|")

    def test_runs(self):
        for run, line in [(text("a b"), "a b"), (strong("a"), "*a*"), (("note", []), "^{}"), (("ref", "a1"), "@a1"),
                          (("page", "a1"), "@@a1"), (TIE, "~"), (("mark", "a"), "^!{a}"), (text(" "), " "),
                          (("note", [strong("a"), text(" "), ("ref", "b"), TIE]), "^{*a* @b~}")]:
            self.writes(para(run), line)

    def test_marks_become_plain(self):
        plain = "".join("\\" + mark for mark in MARKS)
        self.writes(para(text(MARKS)), plain)
        self.writes(para(strong(MARKS)), f"*{plain}*")
        self.writes(para(("mark", MARKS)), f"^!{{{plain}}}")
        self.writes(para(("note", [text(MARKS)])), f"^{{{plain}}}")
        self.writes(("head", 1, [text(MARKS)], "a"), f"# {plain}#a")
        self.writes(("float", 5, [text(MARKS)], "a"), f"#float 5 {{{plain}}}#a")
        self.writes(("table", [[[text(MARKS)]]]), f"|{plain}|")

    def test_documents(self):
        self.assertEqual(call(self, write, []), "")
        self.assertEqual(call(self, write, [("page",), para(text("a")), ("page",)]), "#page\n\na\n\n#page\n\n")
        tables = [("table", [[[]]]), ("table", [[[]], [[]]])]
        self.assertEqual(call(self, write, tables), "||\n\n||\n||\n\n")
        self.assertEqual(read(write(tables)), tables)

    def test_many(self):
        chance = random.Random(10)
        for _ in range(800):
            document = [some_block(chance) for _ in range(chance.randint(0, 6))]
            signs = call(self, write, document)
            self.assertEqual(call(self, read, signs), document, signs)
            self.assertTrue(signs == "" or signs.endswith("\n\n"))
            self.assertEqual(write(read(signs)), signs)


def some_text(chance):
    signs = CHARACTERS if chance.random() < 0.5 else MARKS + "ab -!"
    return "".join(chance.choice(signs) for _ in range(chance.randint(1, 6)))


def some_label(chance):
    return chance.choice("abz") + "".join(chance.choice("abz019") for _ in range(chance.choice([0, 1, 15])))


def some_runs(chance, inner, least=0):
    """Runs that can be written: no texts of one use in a row, and none that goes on with a label."""
    runs = []
    while len(runs) < least or chance.random() < 0.7:
        kind = chance.choice(["text", "text", "strong", "tie", "ref", "page", "note", "mark"])
        if kind in ("text", "strong"):
            run = text(some_text(chance), kind)
            if runs and runs[-1][:2] == run[:2] or runs and runs[-1][0] in ("ref", "page") and kind == "text":
                continue
        elif kind in ("note", "mark"):
            if inner:
                continue
            run = (kind, some_runs(chance, True) if kind == "note" else some_text(chance))
        else:
            run = TIE if kind == "tie" else (kind, some_label(chance))
        runs.append(run)
    return runs


def some_block(chance):
    kind = chance.choice(["head", "para", "para", "item", "float", "table", "page", "contents", "index"])
    label = chance.choice(["", some_label(chance)])
    if kind == "head":
        return (kind, chance.randint(1, 2), [text(some_text(chance))], label)
    if kind == "para":
        runs = some_runs(chance, False, 1)
        if runs[0][:2] == ("text", "text"):
            runs[0] = text("." + runs[0][2])
        return (kind, runs)
    if kind == "item":
        return (kind, chance.randint(1, 2), some_runs(chance, False, 1))
    if kind == "float":
        return (kind, chance.choice([0, 7, 999999]), some_runs(chance, True), label)
    if kind == "table":
        many = chance.randint(1, 4)
        return (kind, [[some_runs(chance, False) for _ in range(many)] for _ in range(chance.randint(1, 3))])
    return (kind,)


if __name__ == "__main__":
    unittest.main()
