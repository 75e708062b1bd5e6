"""Points 2, 3, 4, 16, 19 and 25 over the whole program: long rows of deeds, of which many raise errors."""

import unittest

from chances import Chance
from keyfocus.deeds import Session, played, tree_deeds
from keyfocus.errors import FocusError
from keyfocus.keyhelp import help_text, hidden_bindings, live_bindings, live_defaults, meaning, next_strokes
from keyfocus.outlines import parse_outline, write_outline
from keyfocus.report import report
from keyfocus.scripts import read_script, write_script
from keyfocus.treediff import differences, edited, edits
from managers import ManagerCase, Watched, outcome, state
from model import Model
from trees import random_tree


class WatchedSession(Watched):
    """A session; behind each deed through it, what holds behind every call is checked."""

    def __init__(self, case, outline):
        self.session = Session(outline)
        super().__init__(case, outline)
        self.manager = self.session.manager

    def run(self, word, arguments):
        return self.session.do((word, *arguments))


class WholeProgramTest(ManagerCase):
    def rows(self, seeds, many):
        """For each seed a watched session, its outline, and a row of deeds for it."""
        for seed in seeds:
            outline = write_outline(random_tree(seed, 3 + seed % 20, 0.08))
            watched = WatchedSession(self, outline)
            yield watched, outline, Chance(seed).deeds(watched.session, many)

    def test_every_deed(self):
        for watched, outline, deeds in self.rows(range(200, 230), 70):
            model = Model(outline)
            for word, *arguments in deeds:
                expected = outcome(getattr(model, word), *arguments)
                self.assertEqual(expected, outcome(getattr(watched, word), *arguments), (word, arguments))
                self.assertEqual(state(model), state(watched.manager), (word, arguments))

    def test_scripts_lead_to_the_same_state(self):
        for watched, outline, deeds in self.rows(range(300, 330), 60):
            tried = []
            for deed in deeds:
                tried.append(deed)
                outcome(watched.session.do, deed)
            told = state(watched.manager), report(watched.manager), help_text(watched.manager)
            for row in (watched.session.deeds(), tried):
                again = played(outline, read_script(write_script(row)))
                self.assertEqual(told, (state(again), report(again), help_text(again)))

    def test_edits_lead_to_the_same_tree(self):
        for watched, outline, deeds in self.rows(range(400, 420), 60):
            for deed in deeds:
                outcome(watched.session.do, deed)
            before, after = parse_outline(outline), parse_outline(watched.manager.outline())
            done = edited(before, tree_deeds(watched.session.deeds()))
            self.assertEqual(after.infos(), done.infos())
            made = edited(before, edits(before, after))
            self.assertEqual([], differences(after, made))
            self.assertEqual(outline, write_outline(before))

    def test_a_manager_can_go_over_to_another_tree(self):
        for seed in range(20):
            one, other = random_tree(seed, 15, 0.1), random_tree(seed + 7, 15, 0.1)
            watched = Watched(self, write_outline(one))
            for layer in [name for name in one.names()[1:] if one.kind(name) == "layer"][:5]:
                watched.open_layer(layer)
            for word, *arguments in edits(one, other):
                getattr(watched, word)(*arguments)
            self.assertEqual(write_outline(other), watched.manager.outline())

    def test_every_keystroke_means_what_it_does(self):
        for watched, _, deeds in self.rows(range(500, 520), 80):
            for deed in deeds:
                if deed[0] == "press":
                    expected = meaning(watched.manager, deed[1])
                    following = next_strokes(watched.manager)
                    found = watched.session.do(deed)
                    self.assertEqual(expected, found[:3])
                    if found[0] == "pending" and len(watched.manager.pending().split()) > 1:
                        self.assertIn(watched.manager.pending().split()[-1], following)
                else:
                    outcome(watched.session.do, deed)

    def test_every_route_leads_to_its_item(self):
        for watched, _, deeds in self.rows(range(600, 610), 40):
            for deed in deeds:
                outcome(watched.session.do, deed)
            manager = watched.manager
            for item in manager.focusable_items(manager.open_layers()[-1]):
                for word in manager.shortest_route(item):
                    self.assertIs(True, manager.execute(word))
                self.assertEqual(item, manager.focused())
                self.assertEqual([], manager.shortest_route(item))
                manager.focus_next()

    def test_telling_changes_nothing(self):
        tells = (live_bindings, hidden_bindings, live_defaults, next_strokes, help_text, report)
        for watched, _, deeds in self.rows(range(700, 710), 40):
            for deed in deeds:
                outcome(watched.session.do, deed)
                before = state(watched.manager)
                found = [tell(watched.manager) for tell in tells]
                self.assertEqual(before, state(watched.manager))
                for row in found:
                    if isinstance(row, list):
                        row.append("more")
                self.assertEqual(before, state(watched.manager))

    def test_all_errors_derive_from_one(self):
        for deed in (("focus", "nobody"), ("press", "none"), ("none",)):
            with self.assertRaises(FocusError):
                Session('layer root ""').do(deed)
        for call, text in ((Session, "none"), (read_script, "none")):
            with self.assertRaises(FocusError):
                call(text)


if __name__ == "__main__":
    unittest.main()
