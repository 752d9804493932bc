"""Edits and sessions: points 14.1 to 14.4."""

import random
import unittest

from galleypapers.edits import Session, applied, difference, inverse
from galleypapers.errors import BreakError, CircleError, EditError, GalleyError, LabelError, PageError, TableError
from galleypapers.galley import Layout, build
from tests.documents import floating, head, item, note, para, plain_style, some_block, some_document, text
from tests.helper import call, fault
from tests.test_galley import tight_style

STYLE = plain_style()
A, B, C, D = para("a"), para("b"), ("page",), ("contents",)


class TestEdits(unittest.TestCase):
    """Points 14.1 and 14.2."""

    def test_example(self):
        old = [A, ("page",), B]
        edit = call(self, difference, old, [old[0], ("contents",), old[2]])
        self.assertEqual(edit, ("edit", 1, 1, [("contents",)]))
        self.assertEqual(call(self, inverse, old, edit), ("edit", 1, 1, [("page",)]))

    def test_applied(self):
        for edit, told in [(("edit", 0, 0, [D]), [D, A, B, C]), (("edit", 3, 0, [D]), [A, B, C, D]),
                           (("edit", 1, 1, [D, A]), [A, D, A, C]), (("edit", 0, 3, []), []),
                           (("edit", 2, 1, []), [A, B]), (("edit", 1, 0, []), [A, B, C]),
                           (("edit", 0, 2, [D]), [D, C]), (("edit", 3, 0, []), [A, B, C])]:
            new = call(self, applied, [A, B, C], edit)
            self.assertEqual((new, type(new)), (told, list))
        self.assertEqual(applied([], ("edit", 0, 0, [A])), [A])

    def test_edits_that_do_not_fit(self):
        for edit in [("edit", -1, 0, []), ("edit", -1, 1, []), ("edit", 0, -1, []), ("edit", 3, -1, []), ("edit", 0, 4, []),
                     ("edit", 3, 1, [A]), ("edit", 4, 0, [A]), ("edit", 4, -1, []), ("edit", 2, 2, []), ("edit", -3, 3, [])]:
            for function in (applied, inverse):
                fault(self, EditError, function, [A, B, C], edit)
        fault(self, EditError, applied, [], ("edit", 0, 1, []))

    def test_inverse(self):
        for edit, told in [(("edit", 0, 0, [D]), ("edit", 0, 1, [])), (("edit", 1, 2, []), ("edit", 1, 0, [B, C])),
                           (("edit", 3, 0, [D, D]), ("edit", 3, 2, [])), (("edit", 1, 1, [B]), ("edit", 1, 1, [B])),
                           (("edit", 2, 0, []), ("edit", 2, 0, []))]:
            self.assertEqual(call(self, inverse, [A, B, C], edit), told)

    def test_difference(self):
        for old, new, told in [
                ([], [], (0, 0, [])), ([A], [], (0, 1, [])), ([], [A], (0, 0, [A])), ([A, B], [A, B], (2, 0, [])),
                ([A, B], [A, C], (1, 1, [C])), ([A, B], [C, B], (0, 1, [C])), ([A, A], [A], (1, 1, [])),
                ([A], [A, A], (1, 0, [A])), ([A, B, A], [A], (1, 2, [])), ([A], [A, B, A], (1, 0, [B, A])),
                ([A, B, A, B], [A, B], (2, 2, [])), ([A, B, C], [A, C], (1, 1, [])), ([A, B, C], [D], (0, 3, [D])),
                ([A, B, B, C], [A, B, B, B, C], (3, 0, [B])), ([A, B, B, B, C], [A, B, B, C], (3, 1, []))]:
            edit = call(self, difference, old, new)
            self.assertEqual(edit, ("edit", *told))
            self.assertEqual((type(edit), type(edit[3])), (tuple, list))

    def test_random(self):
        chance = random.Random(1)
        for _ in range(400):
            old = [chance.choice([A, B, C]) for _ in range(chance.randint(0, 5))]
            new = [chance.choice([A, B, C]) for _ in range(chance.randint(0, 5))]
            edit = difference(old, new)
            _, at, removed, blocks = edit
            self.assertEqual(applied(old, edit), new)
            self.assertEqual(applied(new, inverse(old, edit)), old)
            most = min(len(old), len(new))
            self.assertEqual(at, max(many for many in range(most + 1) if old[:many] == new[:many]))
            behind = max(many for many in range(most - at + 1) if old[len(old) - many:] == new[len(new) - many:])
            self.assertEqual((removed, blocks), (len(old) - at - behind, new[at:len(new) - behind]))


class TestSessions(unittest.TestCase):
    """Points 14.3 and 14.4."""

    def state(self, session):
        return session.document, session.layout, session.tables, session.made, session.same

    def test_beginning(self):
        document = [head(1, "a", "x"), para("b", note("c"), ("page", "x")), ("page",), floating(3, "d"),
                    ("table", [[[text("e")]], [[text("e")]], [[note("f")]]])]
        session = call(self, Session, document, STYLE)
        layout, tables = build(document, STYLE)
        self.assertEqual((session.document, session.tables, session.same), (document, tables, 0))
        self.assertIs(type(session.layout), Layout)
        self.assertEqual(session.layout.placed, layout.placed)
        # The head, a note, the float and its text, two rows with one more note, and two paragraphs.
        self.assertEqual((len(tables), session.made), (2, 8))

    def test_empty_documents(self):
        session = Session([], STYLE)
        self.assertEqual((session.document, session.layout.placed, session.tables, session.made, session.same),
                         ([], [], [[]], 0, 0))
        self.assertIsNone(session.edit(("edit", 0, 0, [A])))
        self.assertEqual((session.document, session.made, session.same), ([A], 1, 0))
        session.edit(("edit", 0, 1, []))
        self.assertEqual((session.document, session.layout.placed, session.made, session.same), ([], [], 0, 0))

    def test_only_what_changes_is_made(self):
        session = Session([A, B, para("c", note("n"))], STYLE)
        self.assertEqual(session.made, 4)
        for edit, made in [(("edit", 1, 1, [para("x")]), 1), (("edit", 1, 1, [B]), 0), (("edit", 0, 0, [A, A, A]), 0),
                           (("edit", 0, 0, [para("y", note("n"))]), 3), (("edit", 0, 1, []), 0),
                           (("edit", 0, 0, [("page",), ("page",)]), 0), (("edit", 0, 0, [item(1, "a")]), 1),
                           (("edit", 0, 0, [head(1, "h"), ("contents",)]), 3)]:
            call(self, session.edit, edit)
            self.assertEqual(session.made, made)

    def test_sources_of_all_rounds_count(self):
        document = [para("a ", ("page", "x")), ("page",), head(1, "h", "x"), para("b")]
        session = Session(document, STYLE)
        self.assertEqual((len(session.tables), session.made), (2, 4))
        session.edit(("edit", 1, 0, [("page",), ("page",)]))
        self.assertEqual((len(session.tables), session.made), (2, 0))
        session.edit(("edit", 1, 0, [("page",), para("c")]))
        self.assertEqual((len(session.tables), session.made, session.tables[-1]), (2, 2, [3]))

    def test_pages_that_are_the_same(self):
        pages = [[para(sign), ("page",)] for sign in "abcd"]
        session = Session([block for page in pages for block in page], STYLE)
        self.assertEqual((len(session.layout.placed), session.same), (4, 0))
        for edit, same in [
                (("edit", 4, 1, [para("x")]), 2), (("edit", 4, 1, [para("x")]), 4), (("edit", 0, 1, [para("x")]), 0),
                (("edit", 6, 0, [para("y"), ("page",)]), 3), (("edit", 8, 1, []), 4),
                (("edit", 0, 0, [para("z"), ("page",)]), 0), (("edit", 0, 0, []), 5)]:
            session.edit(edit)
            self.assertEqual((session.same, len(session.layout.placed) >= same), (same, True))

    def test_errors_leave_all_as_it_was(self):
        first = [head(1, "a", "x"), para("b ", ("page", "x"))]
        session = Session(first, STYLE)
        session.edit(("edit", 2, 0, [para("c")]))
        before = self.state(session)
        self.assertEqual(session.made, 1)
        long = para("a" * 50)
        for error, edit in [
                (EditError, ("edit", 4, 0, [])), (EditError, ("edit", 0, -1, [])), (EditError, ("edit", 3, 1, [])),
                (LabelError, ("edit", 0, 1, [])), (LabelError, ("edit", 0, 0, [first[0]])),
                (BreakError, ("edit", 0, 0, [long])), (BreakError, ("edit", 3, 0, [para("d", note("a" * 50))])),
                (TableError, ("edit", 0, 0, [("table", [[[text("a" * 50)]]])])),
                (PageError, ("edit", 0, 0, [("table", [[[text("a " * 200)]]])]))]:
            self.assertIs(type(fault(self, error, session.edit, edit)), error)
            self.assertEqual(self.state(session), before)
        session.edit(("edit", 0, 0, []))
        self.assertEqual((session.made, session.same), (0, 1))

    def test_what_was_made_ahead_of_an_error_counts_as_made(self):
        session = Session([A], STYLE)
        edit = ("edit", 0, 0, [para("x", note("y")), para("a" * 50)])
        fault(self, BreakError, session.edit, edit)
        self.assertEqual((session.document, session.made), ([A], 1))
        session.edit(("edit", 0, 0, [para("x", note("y")), para("z")]))
        self.assertEqual(session.made, 1)

    def test_circles_in_sessions(self):
        its_style = tight_style("1", "02")
        document = [head(1, "x", "h"), para("b"), para("c")]
        session = Session(document, its_style)
        before = self.state(session)
        edit = ("edit", 0, 0, [para("aaaaaaaa ", ("page", "h"))])
        self.assertEqual(fault(self, CircleError, session.edit, edit).rounds, [[0], [1], [2], [1]])
        self.assertEqual(self.state(session), before)
        # All three kinds of the paragraph were made ahead of the error.
        fault(self, CircleError, session.edit, edit)
        session.edit(("edit", 0, 0, [para("aaaaaaaa 2")]))
        self.assertEqual(session.made, 1)

    def test_errors_at_the_beginning(self):
        self.assertEqual(fault(self, LabelError, Session, [para(("ref", "q"))], STYLE).label, "q")
        self.assertEqual(fault(self, BreakError, Session, [para("a" * 50)], STYLE).at, -1)
        fault(self, CircleError, Session, [para("aaaaaaaa ", ("page", "h")), head(1, "x", "h"), para("b"), para("c")],
              tight_style("1", "02"))

    def test_random_edits(self):
        chance = random.Random(3)
        told = []
        for seed in range(12):
            document = some_document(seed)
            try:
                session = Session(document, STYLE)
            except GalleyError:
                continue
            for _ in range(12):
                self.check_edit(session, chance, told)
        self.assertGreater(len(told), 80)
        self.assertGreater(len([same for same in told if same > 0]), 20)

    def check_edit(self, session, chance, told):
        """Compare a session after a random edit with what is built afresh."""
        document = session.document
        at = chance.randint(0, len(document))
        removed = chance.randint(0, min(2, len(document) - at))
        blocks = [some_block(chance, ["l0"]) for _ in range(chance.choice([0, 0, 1, 1, 2]))]
        edit = ("edit", at, removed, blocks)
        before = self.state(session)
        new = document[:at] + blocks + document[at + removed:]
        try:
            layout, tables = build(new, STYLE)
        except GalleyError as error:
            found = fault(self, type(error), session.edit, edit)
            self.assertEqual((vars(found), self.state(session)), (vars(error), before))
            return
        self.assertIsNone(call(self, session.edit, edit))
        self.assertEqual((session.document, session.tables, session.layout.placed), (new, tables, layout.placed))
        self.assertEqual((session.layout.matter, session.layout.pages), (layout.matter, layout.pages))
        same = 0
        while session.layout.placed[same:same + 1] == before[1].placed[same:same + 1] != []:
            same += 1
        self.assertEqual(session.same, same)
        told.append(same)


if __name__ == "__main__":
    unittest.main()
