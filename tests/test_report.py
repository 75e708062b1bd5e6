"""Point 36: the report of a manager."""

import unittest

from chances import Chance
from keyfocus.deeds import Session
from keyfocus.manager import Manager
from keyfocus.outlines import write_outline
from keyfocus.report import report
from managers import COMPOSITES, nodes_in, outcome, outline_of, state, stops_in
from trees import composite_in, random_tree

SAMPLE = (
    '  item ok "OK"',
    '  circular list "Fruits"',
    '    item apple "Apple"',
    '    linear in ""',
    '      item pear "Pear"',
    '  linear bare ""',
    '    container box ""',
    '  layer pop ""',
    '    linear row ""',
    '      item yes ""',
    '      item no ""',
    '    item more ""',
    '  layer void ""',
    '    circular ring "" hidden',
    '      item shy ""',
)


def report_in(manager):
    """The report, told by the nodes of a manager."""
    rows, told = nodes_in(manager), state(manager)
    items = {name: item or "nothing" for name, item in told["current"]}
    words = {row[0]: row[0] if row[1] == "item" else f"{row[0]}={items.get(row[0])}" for row in rows.rows}
    bound = sum(len(found) for _, found in told["bindings"])
    lines = [f"{len(rows.rows)} nodes, {bound} bindings, {len(told['queued'])} announcements"]
    for layer, item in told["layers"]:
        stops = " ".join(words[stop] for stop in stops_in(rows, layer)) or "nothing"
        lines.append(f"layer {layer}: {item or 'nothing'} of {stops}")
    outer = [row[0] for row in rows.rows if row[1] in COMPOSITES and composite_in(rows, row[0]) is None]
    lines.append("current " + (" ".join(words[name] for name in outer) or "nothing"))
    lines.append("path " + " ".join(told["path"]))
    lines.append("waiting " + (told["pending"] or "nothing"))
    return "\n".join(lines)


class ReportTest(unittest.TestCase):
    def setUp(self):
        self.manager = Manager(outline_of(*SAMPLE))

    def assert_report(self, *lines):
        before = state(self.manager)
        self.assertEqual("\n".join(lines), report(self.manager))
        self.assertEqual(before, state(self.manager))

    def test_a_new_manager(self):
        self.assert_report(
            "16 nodes, 0 bindings, 1 announcements",
            "layer root: ok of ok list=apple",
            "current list=apple bare=nothing row=yes ring=nothing",
            "path root ok",
            "waiting nothing",
        )

    def test_the_root_alone(self):
        self.manager = Manager('layer root ""')
        self.assert_report("1 nodes, 0 bindings, 1 announcements", "layer root: nothing of nothing", "current nothing",
                           "path root", "waiting nothing")

    def test_items_alone(self):
        self.manager = Manager(outline_of('  item a ""', '  container b ""', '    item c ""'))
        self.manager.focus("c")
        self.manager.take()
        self.assert_report("4 nodes, 0 bindings, 0 announcements", "layer root: c of a c", "current nothing", "path root b c",
                           "waiting nothing")

    def test_several_open_layers(self):
        self.manager.focus("pear")
        for layer in ("pop", "void"):
            self.manager.open_layer(layer)
        self.assert_report(
            "16 nodes, 0 bindings, 1 announcements",
            "layer root: pear of ok list=pear",
            "layer pop: yes of row=yes more",
            "layer void: nothing of nothing",
            "current list=pear bare=nothing row=yes ring=nothing",
            "path void",
            "waiting nothing",
        )
        self.manager.show("ring")
        self.manager.close_layer("pop")
        self.manager.open_layer("void")
        self.manager.open_layer("pop")
        self.manager.focus("no")
        self.manager.focus("more")
        self.assert_report(
            "16 nodes, 0 bindings, 1 announcements",
            "layer root: pear of ok list=pear",
            "layer void: shy of ring=shy",
            "layer pop: more of row=no more",
            "current list=pear bare=nothing row=no ring=shy",
            "path pop more",
            "waiting nothing",
        )

    def test_bindings_and_announcements(self):
        self.manager.bind("ok", "a b", "run x")
        self.manager.bind("root", "a b c", "run x")
        self.manager.bind("shy", "a", "run x")
        self.manager.announce("one", False)
        self.manager.announce("two", False)
        self.manager.press("a")
        self.assert_report(
            "16 nodes, 3 bindings, 3 announcements",
            "layer root: ok of ok list=apple",
            "current list=apple bare=nothing row=yes ring=nothing",
            "path root ok",
            "waiting A",
        )
        self.manager.unbind("ok", "a b")
        self.manager.take()
        self.manager.press("b")
        self.assertEqual("16 nodes, 2 bindings, 2 announcements", report(self.manager).split("\n")[0])
        self.assertEqual("waiting A B", report(self.manager).split("\n")[-1])
        self.manager.focus_next()
        self.assertEqual(["path root list apple", "waiting nothing"], report(self.manager).split("\n")[-2:])

    def test_no_item_is_focused(self):
        for name in ("ok", "list"):
            self.manager.disable(name)
        self.assert_report(
            "16 nodes, 0 bindings, 1 announcements",
            "layer root: nothing of nothing",
            "current list=nothing bare=nothing row=yes ring=nothing",
            "path root",
            "waiting nothing",
        )

    def test_composites_alone(self):
        self.manager = Manager(outline_of('  linear a ""', '    circular b ""', '      item c ""', '      layer d ""',
                                          '        circular e ""', '          item f ""'))
        self.assert_report("7 nodes, 0 bindings, 1 announcements", "layer root: c of a=c", "current a=c e=f", "path root a b c",
                           "waiting nothing")

    def test_many_sessions(self):
        for seed in range(20):
            session = Session(write_outline(random_tree(seed, 14, 0.1)))
            for deed in Chance(seed).deeds(session, 30):
                outcome(session.do, deed)
                self.assertEqual(report_in(session.manager), report(session.manager))


if __name__ == "__main__":
    unittest.main()
