"""Numbers, references and sources: points 11.1 to 11.4."""

import unittest

from galleypapers.errors import GalleyError, GlyphError, LabelError, TableError
from galleypapers.markup import read
from galleypapers.references import numbers_of, sources
from galleypapers.styles import default_style
from galleypapers.tables import table_widths
from tests.helper import call, fault
from tests.test_tables import its_style

STYLE = default_style()
INDENT = STYLE[5]


def text(signs, use="text"):
    return ("text", use, signs)


def head(level, label="", signs="A"):
    return ("head", level, [text(signs)], label)


def floating(label="", *runs):
    return ("float", 5, list(runs), label)


def para(*runs):
    return ("para", list(runs))


def mark(signs):
    return ("mark", signs)


def note(*runs):
    return ("note", list(runs))


class TestNumbers(unittest.TestCase):
    """Points 11.1 and 11.2."""

    def test_example(self):
        document = [head(1), head(2, "b", "B"), floating()]
        numbers = call(self, numbers_of, document)
        self.assertEqual(
            ([number for number, _ in numbers.heads], numbers.labels, numbers.order),
            (['1', '1.1'], {'b': ('1.1', ('head', 1))}, [('head', 0), ('head', 1), ('float', 0)]))
        self.assertEqual(numbers.heads, [("1", document[0]), ("1.1", document[1])])
        self.assertEqual(numbers.marks, [])

    def test_kinds_of_values(self):
        for document in [[], [head(1, "a"), para(mark("x"))]]:
            numbers = numbers_of(document)
            self.assertEqual([type(part) for part in (numbers.heads, numbers.marks, numbers.labels, numbers.order)],
                             [list, list, dict, list])
        self.assertEqual([type(numbers.heads[0]), type(numbers.labels["a"])], [tuple, tuple])
        empty = numbers_of([])
        self.assertEqual((empty.heads, empty.marks, empty.labels, empty.order), ([], [], {}, []))

    def test_numbers_of_heads(self):
        for levels, told in [
                ([1, 1, 1], "1 2 3"), ([2, 2, 1, 2], "0.1 0.2 1 1.1"), ([1, 2, 2, 1, 2, 1, 1, 2], "1 1.1 1.2 2 2.1 3 4 4.1"),
                ([1] * 11 + [2] * 10, "1 2 3 4 5 6 7 8 9 10 11 11.1 11.2 11.3 11.4 11.5 11.6 11.7 11.8 11.9 11.10")]:
            numbers = call(self, numbers_of, [head(level) for level in levels])
            self.assertEqual([number for number, _ in numbers.heads], told.split())
            self.assertEqual(numbers.order, [("head", at) for at in range(len(levels))])

    def test_labels(self):
        document = [head(1, "one"), floating("two"), para(text("x")), floating(), head(2, "three"), floating("four")]
        numbers = numbers_of(document)
        self.assertEqual(numbers.labels, {"one": ("1", ("head", 0)), "two": ("1", ("float", 0)),
                                          "three": ("1.1", ("head", 1)), "four": ("3", ("float", 2))})
        self.assertEqual(numbers.order, [("head", 0), ("float", 0), ("float", 1), ("head", 1), ("float", 2)])

    def test_marks(self):
        document = [para(mark("b"), text("x"), mark("a")), head(1), ("item", 2, [mark("b")]),
                    ("table", [[[mark("c")], [text("y"), mark("d")]], [[], [mark("a")]]]), floating(), ("contents",),
                    para(note(text("z")), mark("e")), ("page",), ("index",)]
        numbers = call(self, numbers_of, document)
        self.assertEqual(numbers.marks, ["b", "a", "b", "c", "d", "a", "e"])
        self.assertEqual(numbers.order, [("mark", 0), ("mark", 1), ("head", 0), ("mark", 2), ("mark", 3), ("mark", 4),
                                         ("mark", 5), ("float", 0), ("mark", 6)])

    def test_the_same_label_twice(self):
        for document in [[head(1, "a"), head(1, "a")], [head(1, "a"), floating("a")], [floating("a"), head(2, "a")],
                         [floating("b"), floating("a"), para(text("x")), floating("a")]]:
            self.assertEqual(fault(self, LabelError, numbers_of, document).label, "a")
            self.assertEqual(fault(self, LabelError, sources, document, STYLE, [1] * 3).label, "a")
        self.assertTrue(issubclass(LabelError, GalleyError))
        self.assertEqual(numbers_of([head(1), head(1), floating(), floating()]).labels, {})

    def test_the_same_label_comes_ahead_of_other_errors(self):
        document = [para(("ref", "none")), ("table", [[[text("x" * 99)]]]), floating("a"), floating("a")]
        self.assertEqual(fault(self, LabelError, sources, document, its_style(), [1, 1]).label, "a")


class TestReferences(unittest.TestCase):
    """Point 11.3."""

    DOCUMENT = [head(1, "one"), head(2, "two"), floating("three"), para(mark("x"))]
    TABLE = [7, 8, 19, 4]

    def resolved(self, *runs):
        made, _ = call(self, sources, [*self.DOCUMENT, para(*runs)], STYLE, self.TABLE)
        return made[-1][1]

    def test_texts(self):
        runs = [text("a"), ("ref", "one"), ("page", "one"), ("ref", "two"), ("page", "two"), ("tie",), ("ref", "three"),
                ("page", "three"), text("b", "strong"), mark("y")]
        made, _ = sources([*self.DOCUMENT, para(*runs)], STYLE, [*self.TABLE, 5])
        self.assertEqual(made[-1][1], [text("a"), text("1"), text("7"), text("1.1"), text("8"), ("tie",), text("1"),
                                       text("19"), text("b", "strong"), mark("y")])

    def test_notes(self):
        self.assertEqual(self.resolved(note(text("a"), ("ref", "two"), ("page", "two")), ("ref", "one")),
                         [note(text("a"), text("1.1"), text("8")), text("1")])
        self.assertEqual(self.resolved(note()), [note()])

    def test_floats_items_and_cells(self):
        document = [*self.DOCUMENT, floating("", ("page", "two"), text("a")), ("item", 1, [("ref", "two")]),
                    ("table", [[[("ref", "two")], [note(("page", "one"))]]])]
        made, _ = call(self, sources, document, STYLE, [*self.TABLE, 0])
        self.assertEqual(made[4][1], [text("8"), text("a")])
        self.assertEqual(made[5][1], [text("1.1")])
        self.assertEqual(made[6][1], [[text("1.1")], [note(text("7"))]])

    def test_references_ahead_of_what_they_refer_to(self):
        document = [para(("ref", "a"), ("page", "a")), head(1), floating("a")]
        made, _ = sources(document, STYLE, [3, 12])
        self.assertEqual(made[0][1], [text("1"), text("12")])

    def test_labels_that_nothing_has(self):
        for runs in [[("ref", "b")], [("page", "b")], [note(("ref", "b"))], [("ref", "a"), ("page", "b"), ("ref", "c")]]:
            for block in [para(*runs), ("item", 1, runs), floating("", *runs), ("table", [[runs]]),
                          ("table", [[[text("a")]], [runs]])]:
                document = [head(1, "a"), block, para(("ref", "d"))]
                self.assertEqual(fault(self, LabelError, sources, document, STYLE, [1, 1]).label, "b")
        self.assertEqual(fault(self, LabelError, sources, [para(("ref", "one"))], STYLE, []).label, "one")

    def test_order_of_errors(self):
        wide = ("table", [[[text("a" * 90)]], [[("ref", "b")]]])
        told = its_style()
        self.assertEqual(fault(self, LabelError, sources, [wide], told, []).label, "b")
        good = ("table", wide[1][:1])
        self.assertEqual(fault(self, TableError, sources, [good, para(("ref", "b"))], told, []).at, 0)
        self.assertEqual(fault(self, LabelError, sources, [para(("ref", "b")), good], told, []).label, "b")
        self.assertEqual(fault(self, LabelError, sources, [para(("ref", "b")), wide, para(("ref", "c"))], told, []).label,
                         "b")
        strange = ("table", [[[text("aX")]]])
        self.assertEqual(fault(self, GlyphError, sources, [strange], told, []).at, 1)


class TestSources(unittest.TestCase):
    """Point 11.4."""

    def made(self, document, table=(), style=STYLE):
        told, numbers = call(self, sources, document, style, list(table))
        self.assertEqual((numbers.heads, numbers.marks, numbers.labels, numbers.order),
                         tuple(getattr(numbers_of(document), name) for name in ("heads", "marks", "labels", "order")))
        return told

    def test_kinds_of_values(self):
        told = sources([head(1), ("page",)], STYLE, [1])
        self.assertEqual([type(told), type(told[0]), type(told[0][0])], [tuple, list, tuple])
        self.assertEqual(sources([], STYLE, [])[0], [])

    def test_heads(self):
        document = [head(2, "", "Zero"), head(1, "x", "One"), para(text("p")), head(2, "", "Two"), head(1)]
        told = self.made(document, [1, 2, 3, 4])
        self.assertEqual(told, [
            ("head", [text("0.1 "), text("Zero")], "head2", 0, 0), ("head", [text("1 "), text("One")], "head1", 0, 0),
            ("para", [text("p")], "", INDENT, 0), ("head", [text("1.1 "), text("Two")], "head2", 0, 0),
            ("head", [text("2 "), text("A")], "head1", 0, 0)])

    def test_indents(self):
        for measure, indent, rooms in [(100, 30, (30, 30, 50)), (100, 51, (51, 50, 50)), (101, 26, (26, 26, 50)),
                                       (100, 25, (25, 25, 50)), (100, 24, (24, 24, 48)), (100, 0, (0, 0, 0)),
                                       (103, 51, (51, 51, 51)), (1, 0, (0, 0, 0))]:
            style = its_style(measure=measure, indent=indent)
            told = self.made([para(text("a")), ("item", 1, [text("a")]), ("item", 2, [text("a")])], [], style)
            self.assertEqual(told, [("para", [text("a")], "", rooms[0], 0), ("item", [text("a")], "", rooms[1], 0),
                                    ("item", [text("a")], "", rooms[2], 0)])

    def test_floats_and_new_pages(self):
        told = self.made([("page",), ("float", 77, [text("a", "strong")], "x"), ("float", 0, [], "")], [1, 1])
        self.assertEqual(told, [("page",), ("float", [text("a", "strong")], "note", 0, 0, 77), ("float", [], "note", 0, 0, 0)])

    def test_numbers_of_notes(self):
        one = note(text("n"))
        document = [para(text("a")), para(one, text("a"), one), ("item", 1, [text("b")]), floating("", text("f")), head(1),
                    ("item", 2, [one]), ("table", [[[text("c")], []], [[one], [text("d"), one]], [[], [one]]]),
                    ("contents",), para(mark("x"), one), para(text("e"))]
        told = self.made(document, [1, 1, 1])
        self.assertEqual([source[4] for source in told if source[0] in ("para", "item", "row")],
                         [0, 1, 0, 3, 0, 4, 6, 0, 7, 0])

    def test_tables(self):
        rows = [[[text("a")], [text("abc")]], [[note()], []]]
        style = its_style(measure=88)
        told = self.made([("table", rows), ("table", [[[text("ab cd")]]])], [], style)
        self.assertEqual(table_widths(style, rows), [10, 70])
        self.assertEqual(told, [("row", rows[0], "", [10, 70], 0), ("row", rows[1], "", [10, 70], 1),
                                ("row", [[text("ab cd")]], "", [88], 0)])

    def test_widths_by_resolved_references(self):
        document = [("table", [[[("page", "x")], [text("a")]]]), head(1, "x")]
        fonts = {**its_style()[1], "text": ("font", "plain", {**its_style()[1]["text"][2], "1": (20, 5, 0)}, {})}
        told = self.made(document, [111], its_style(measure=88, fonts=fonts))
        self.assertEqual(told[0], ("row", [[text("111")], [text("a")]], "", [60, 20], 0))

    def test_contents(self):
        document = [("contents",), head(1, "", "One"), floating(), para(mark("m")), head(2, "", "Two"), ("contents",)]
        told = self.made(document, [3, 4, 5, 16])
        contents = [("item", [text("1 "), text("One"), text(" 3")], "", 0, 0),
                    ("item", [text("1.1 "), text("Two"), text(" 16")], "", 0, 0)]
        self.assertEqual(told[:2], contents)
        self.assertEqual(told[-2:], contents)
        self.assertEqual(len(told), 8)
        self.assertEqual(self.made([("contents",)]), [])

    def test_index(self):
        document = [para(mark("b"), mark("B"), mark("a b")), head(1), para(mark("b"), mark("a")), ("index",),
                    ("item", 1, [mark("b"), mark("b")])]
        told = self.made(document, [12, 2, 3, 9, 10, 5, 12, 2])
        self.assertEqual(told[3:7], [
            ("item", [text("B 2")], "", 0, 0), ("item", [text("a 5")], "", 0, 0), ("item", [text("a b 3")], "", 0, 0),
            ("item", [text("b 2, 10, 12")], "", 0, 0)])
        self.assertEqual(len(told), 8)
        self.assertEqual(self.made([("index",)]), [])

    def test_marked_text(self):
        document = read("# One#a\nsee *this* @a^{note @@b} and^!{x}\n\n- item^{two}\n|a^{three}|@b|\n#float 9 {f @@a}#b\n"
                        "#page\n#contents\n#index")
        told = self.made(document, [1, 2, 3])
        self.assertEqual(told[1:3], [
            ("para", [text("see "), text("this", "strong"), text(" "), text("1"), note(text("note "), text("3")),
                      text(" and"), mark("x")], "", INDENT, 1),
            ("item", [text("item"), note(text("two"))], "", INDENT, 2)])
        self.assertEqual(told[3][:3] + told[3][4:], ("row", [[text("a"), note(text("three"))], [text("1")]], "", 3))
        self.assertEqual(told[4:], [
            ("float", [text("f "), text("1")], "note", 0, 0, 9), ("page",),
            ("item", [text("1 "), text("One"), text(" 1")], "", 0, 0), ("item", [text("x 2")], "", 0, 0)])


if __name__ == "__main__":
    unittest.main()
