"""Points 33 and 34: deeds, sessions, and what is taken back."""

import unittest

from chances import Chance
from keyfocus.deeds import Session, done, openings_of, played, tree_deeds
from keyfocus.errors import BadKeys, BadOutline, Refused
from keyfocus.manager import Manager
from keyfocus.outlines import write_outline
from managers import outcome, outline_of, state
from trees import random_tree

SAMPLE = (
    '  item ok "OK"',
    '  circular list "Fruits"',
    '    item apple "Apple"',
    '    item pear "Pear"',
    '  layer pop "Pop"',
    '    item yes "Yes"',
    '    item no "No"',
    '  layer void ""',
    '  item shy "" hidden disabled',
)
OUTLINE = outline_of(*SAMPLE)
# A state in which much can be taken back: a binding, a pending sequence, messages, open layers.
READY = (
    ("focus", "pear"),
    ("bind", "root", "a b", "run x"),
    ("bind", "list", "ctrl+x", "focus ok"),
    ("announce", "polite", False),
    ("open_layer", "pop"),
    ("bind", "pop", "c d", "focusNext"),
    ("press", "c"),
)
DEEDS = (
    (("insert", "list", 1, "item", "plum", "Plum"), None), (("move", "apple", "pop", 0), None),
    (("set_label", "yes", "No"), None), (("remove", "list"), 3), (("remove", "pop"), 3), (("hide", "yes"), True),
    (("show", "yes"), False), (("disable", "pear"), True), (("enable", "pear"), False), (("focus_next",), "no"),
    (("focus_previous",), "no"), (("next_item",), "yes"), (("previous_item",), "yes"), (("first_item",), "yes"),
    (("last_item",), "yes"), (("typeahead", "n"), "yes"), (("focus", "no"), None), (("close_layer", "pop"), ["pop"]),
    (("close_opening", 1), True), (("close_opening", 0), False), (("bind", "yes", "x", "run x"), None),
    (("unbind", "pop", "C  d"), True), (("unbind", "pop", "z"), False),
    (("press", "d"), ("triggered", "pop", "focusNext", True)), (("press", "z"), ("unmatched", "", "", False)),
    (("press", "escape"), ("triggered", "pop", "closeTopLayer", True)), (("execute", "focusNext"), True),
    (("execute", "nextItem"), False), (("execute", 'announce "x"'), True), (("announce", "loud", True), None),
    (("announce", "quiet", False), None), (("insert", "root", 0, "layer", "more", ""), None),
    (("take",), ("path", 0, (("root", "layer", "Root", 0, 0), ("list", "circular", "Fruits", 0, 0),
                             ("pear", "item", "Pear", 2, 2)))),
    (("open_layer", "void"), 2), (("show", "shy"), True), (("enable", "shy"), True), (("focus", "yes"), None),
    (("execute", "openLayer void"), True), (("typeahead", ""), "yes"),
)
WRONG = (
    (("insert", "ok", 0, "item", "new", ""), "an item cannot have children"), (("remove", "root"), "not allowed for the root layer"),
    (("move", "list", "list", 0), "cannot move a node into itself"), (("set_label", "nobody", ""), "unknown node"),
    (("show", "nobody"), "unknown node"), (("hide", "root"), "not allowed for the root layer"),
    (("enable", "nobody"), "unknown node"), (("disable", "root"), "not allowed for the root layer"),
    (("open_layer", "pop"), "layer is already open"), (("close_layer", "ok"), "layer is not open"),
    (("focus", "ok"), "item is not focusable"), (("bind", "pop", "c", "run x"), "conflicting key sequence"),
    (("bind", "pop", "none", "run x"), "invalid key sequence"), (("bind", "pop", "x", "none"), "no command"),
    (("unbind", "nobody", "x"), "unknown node"), (("unbind", "pop", ""), "invalid key sequence"),
    (("press", "none"), "invalid keystroke"), (("execute", "none"), "no command"),
)


def session_of(*deeds):
    """A session of the sample, behind some deeds."""
    session = Session(OUTLINE)
    for deed in deeds:
        session.do(deed)
    return session


class SessionTest(unittest.TestCase):
    def assert_refused(self, what, call, *arguments):
        with self.assertRaises((Refused, BadKeys)) as caught:
            call(*arguments)
        self.assertEqual(what, caught.exception.what)

    def test_a_new_session(self):
        session = Session(OUTLINE)
        self.assertEqual([], session.deeds())
        self.assertIsInstance(session.manager, Manager)
        self.assertEqual(state(Manager(OUTLINE)), state(session.manager))
        self.assert_refused("nothing to undo", session.undo)
        self.assertEqual(state(Manager(OUTLINE)), state(session.manager))

    def test_bad_outlines(self):
        for call in (Session, lambda outline: played(outline, [])):
            with self.assertRaises(BadOutline) as caught:
                call('layer root ""\n  item A ""')
            self.assertEqual(1, caught.exception.line)

    def test_each_deed_and_its_undo(self):
        for deed, expected in DEEDS:
            session = session_of(*READY)
            before = state(session.manager)
            self.assertEqual(("pop", "C", 2), (before["path"][0], before["pending"], len(before["queued"]) - 1))
            self.assertEqual(expected, session.do(deed), deed)
            self.assertEqual(list(READY) + [deed], session.deeds())
            self.assertEqual(state(played(OUTLINE, list(READY) + [deed])), state(session.manager), deed)
            self.assertEqual(deed, session.undo())
            self.assertEqual(list(READY), session.deeds())
            self.assertEqual(before, state(session.manager), deed)

    def test_a_deed_is_the_call_of_the_manager(self):
        for deed, expected in DEEDS + WRONG:
            one, other = played(OUTLINE, READY), session_of(*READY)
            self.assertEqual(outcome(getattr(one, deed[0]), *deed[1:]), outcome(other.do, deed), deed)
            self.assertEqual(state(one), state(other.manager), deed)

    def test_a_deed_that_raises_an_error_is_not_recorded(self):
        for deed, what in WRONG:
            session = session_of(*READY)
            before = state(session.manager)
            self.assert_refused(what, session.do, deed)
            self.assertEqual((before, list(READY)), (state(session.manager), session.deeds()))
            self.assertEqual(READY[-1], session.undo())

    def test_too_many_messages(self):
        session = session_of(*[("announce", "text", False)] * 40)
        self.assert_refused("too many queued messages", session.do, ("announce", "text", True))
        self.assertEqual(40, len(session.deeds()))
        self.assertEqual(41, len(session.manager.queued()))

    def test_deeds_of_another_word(self):
        session = session_of(*READY)
        before = state(session.manager)
        for deed in (("edit",), ("",), ("Focus", "ok"), ("nodes",), ("outline",), ("undo",), ("focused",), ("pending",),
                     ("is_closed", 1), ("queued",), ("bindings", "ok"), ("shortest_route", "ok"), ("focusNext",),
                     ("_settle",), ("__init__", OUTLINE), ("do", ("take",))):
            self.assert_refused("no deed", session.do, deed)
            self.assert_refused("no deed", done, session.manager, deed)
        self.assertEqual((before, list(READY)), (state(session.manager), session.deeds()))

    def test_all_deeds_are_taken_back(self):
        session, states = Session(OUTLINE), []
        for deed in READY + tuple(deed for deed, _ in DEEDS[:2] + DEEDS[9:12] + DEEDS[22:29]):
            states.append(state(session.manager))
            session.do(deed)
        deeds = session.deeds()
        for before in reversed(states):
            self.assertEqual(deeds.pop(), session.undo())
            self.assertEqual(before, state(session.manager))
            self.assertEqual(deeds, session.deeds())
        self.assertEqual([], deeds)
        self.assert_refused("nothing to undo", session.undo)
        self.assertEqual(states[0], state(session.manager))

    def test_what_is_done_behind_an_undo(self):
        session = session_of(*READY)
        session.do(("close_layer", "pop"))
        session.undo()
        self.assertEqual(["pop"], session.do(("close_layer", "pop")))
        self.assertEqual(2, session.do(("open_layer", "pop")))
        session.undo()
        session.undo()
        session.undo()
        self.assertEqual("", session.manager.pending())
        self.assertEqual(("unmatched", "", "", False), session.do(("press", "d")))

    def test_openings_get_their_numbers_back(self):
        session = session_of(("open_layer", "pop"), ("close_layer", "pop"))
        self.assertEqual(2, session.do(("open_layer", "pop")))
        session.undo()
        self.assertEqual((True, True), (session.manager.is_closed(1), session.manager.is_closed(2)))
        session.undo()
        self.assertEqual((False, True), (session.manager.is_closed(1), session.manager.is_closed(2)))
        session.undo()
        self.assertEqual(1, session.do(("open_layer", "pop")))

    def test_the_list_of_deeds_is_one_of_its_own(self):
        session = session_of(*READY)
        session.deeds().clear()
        session.deeds().append(("take",))
        self.assertEqual(list(READY), session.deeds())
        self.assertEqual(READY[-1], session.undo())

    def test_sessions_share_nothing(self):
        one, other = session_of(*READY), Session(OUTLINE)
        self.assertEqual([], other.deeds())
        other.do(("focus_next",))
        self.assertEqual(list(READY), one.deeds())

    def test_lists_that_deeds_return(self):
        session = session_of(*READY)
        found = session.do(("close_layer", "pop"))
        found.append("root")
        self.assertEqual(["root"], session.manager.open_layers())


class PlayedTest(unittest.TestCase):
    def test_errors_are_passed_over(self):
        deeds = [("focus", "nobody"), ("focus_next",), ("press", "none"), ("none",), ("open_layer", "pop"), ("open_layer", "pop"),
                 ("bind", "ok", "a b c d", "run x"), ("insert", "ok", 0, "item", "new", ""), ("focus_next",)]
        given = list(deeds)
        manager = played(OUTLINE, deeds)
        self.assertEqual(given, deeds)
        self.assertEqual((["pop", "no"], "apple"), (manager.focus_path(), manager.layer_item("root")))
        self.assertEqual(state(played(OUTLINE, [("focus_next",), ("open_layer", "pop"), ("focus_next",)])), state(manager))

    def test_no_deeds(self):
        self.assertEqual(state(Manager(OUTLINE)), state(played(OUTLINE, [])))

    def test_done(self):
        manager = Manager(OUTLINE)
        self.assertEqual("apple", done(manager, ("focus_next",)))
        self.assertIsNone(done(manager, ("insert", "list", 0, "item", "fig", "Fig")))
        self.assertEqual((1, 1), (done(manager, ("remove", "fig")), done(manager, ("open_layer", "pop"))))
        self.assertEqual(["pop", "yes"], manager.focus_path())

    def test_tree_deeds_and_openings(self):
        deeds = [deed for deed, _ in DEEDS] + [("open_layer", "pop"), ("close_layer", "pop"), ("open_layer", "more"),
                                              ("open_layer", "pop"), ("open_layer", "nobody")]
        words = ("insert", "remove", "move", "set_label", "show", "hide", "enable", "disable")
        given = list(deeds)
        found = tree_deeds(deeds)
        self.assertEqual([deed for deed in deeds if deed[0] in words], found)
        self.assertEqual(12, len(found))
        self.assertEqual(["void", "pop", "more", "pop", "nobody"], openings_of(deeds))
        self.assertEqual(given, deeds)
        self.assertEqual(([], []), (tree_deeds([]), openings_of([])))
        found.clear()
        self.assertEqual(given, deeds)


class ManySessionsTest(unittest.TestCase):
    def test_every_undo_leads_back(self):
        for seed in range(12):
            outline = write_outline(random_tree(seed, 12, 0.05))
            session, chance, states = Session(outline), Chance(seed), []
            for deed in chance.deeds(session, 60):
                before = state(session.manager)
                if outcome(session.do, deed)[0] == "returned":
                    states.append(before)
                else:
                    self.assertEqual(before, state(session.manager))
                self.assertEqual(len(states), len(session.deeds()))
            self.assertEqual(state(played(outline, session.deeds())), state(session.manager))
            while states:
                session.undo()
                self.assertEqual(states.pop(), state(session.manager))
            self.assertEqual([], session.deeds())


if __name__ == "__main__":
    unittest.main()
