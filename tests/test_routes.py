"""Points 29 and 30: the shortest routes to an item, and within a composite."""

import unittest

from keyfocus.composites import moved
from keyfocus.manager import Manager
from keyfocus.outlines import write_outline
from keyfocus.routes import route_within
from managers import ManagerCase
from trees import random_tree, told, tree_of

NEXT, PREVIOUS, FIRST, LAST = MOVES = ("nextItem", "previousItem", "firstItem", "lastItem")
STEPS = {"focusNext": "focus_next", "focusPrevious": "focus_previous", NEXT: "next_item",
         PREVIOUS: "previous_item", FIRST: "first_item", LAST: "last_item"}
SHORT = {"n": NEXT, "p": PREVIOUS, "f": FIRST, "l": LAST}
# The rows are the starts, the columns the targets; 0 stands for the empty route.
ROUTES = {
    "linear": (
        ("0",),
        ("0 n", "p 0"),
        ("0 n l", "p 0 n", "f p 0"),
        ("0 n nn l", "p 0 n l", "f p 0 n", "f pp p 0"),
        ("0 n nn lp l", "p 0 n nn l", "f p 0 n l", "f pp p 0 n", "f fn pp p 0"),
    ),
    "circular": (
        ("0",),
        ("0 n", "n 0"),
        ("0 n p", "p 0 n", "n p 0"),
        ("0 n nn p", "p 0 n l", "f p 0 n", "n nn p 0"),
        ("0 n nn pp p", "p 0 n nn l", "f p 0 n l", "f pp p 0 n", "n nn pp p 0"),
    ),
}


def row_of(kind, many):
    """A tree with a composite of some members m0, m1 .., and an item that is none between them."""
    inside = [f'    item m{number} ""' for number in range(many)]
    inside[1:1] = ['    item other "" hidden']
    return tree_of('  item before ""', f'  {kind} row ""', *inside, '  item behind ""')


def distances(tree, start):
    """How many movements are needed to get from a member to each of the others, as far as seen."""
    found, edge = {start: 0}, [start]
    while edge:
        item = edge.pop(0)
        for movement in MOVES:
            other = moved(tree, item, movement)
            if other not in found:
                found[other] = found[item] + 1
                edge.append(other)
    return found


def places(manager):
    """The current items of all composites, and the focused item behind them."""
    items = [manager.current_item(name) for name, kind, *_ in manager.nodes() if kind in ("linear", "circular")]
    return tuple(item for item in items if item is not None) + (manager.focused(),)


def go_to(manager, items):
    """Gives the focus to some items, one after another, so that a manager has these places."""
    for item in items:
        manager.focus(item)


def distances_from(manager):
    """How many commands are needed to get from the focused item to each of the others, as far as seen."""
    found, edge = {}, [places(manager)]
    ways = {edge[0]: 0}
    while edge:
        items = edge.pop(0)
        found.setdefault(items[-1], ways[items])
        if len(found) == len(manager.focusable_items("root")):
            break
        for step in STEPS.values():
            go_to(manager, items)
            getattr(manager, step)()
            if places(manager) not in ways:
                ways[places(manager)] = ways[items] + 1
                edge.append(places(manager))
    return found


class RouteWithinTest(unittest.TestCase):
    def test_each_pair_of_members(self):
        for kind, tables in ROUTES.items():
            for many, table in enumerate(tables, 1):
                tree = row_of(kind, many)
                before = told(tree)
                found = tuple(" ".join(self.short(tree, start, target) for target in range(many))
                              for start in range(many))
                self.assertEqual(table, found, (kind, many))
                self.assertEqual(before, told(tree))

    def short(self, tree, start, target):
        route = route_within(tree, f"m{start}", f"m{target}")
        self.assertIs(list, type(route))
        letters = {word: letter for letter, word in SHORT.items()}
        return "".join(letters[word] for word in route) or "0"

    def test_longer_composites(self):
        for kind, many, start, target, route in (
            ("linear", 7, 1, 4, "nnn"), ("linear", 7, 0, 4, "lpp"), ("linear", 7, 0, 3, "nnn"), ("linear", 7, 2, 5, "lp"),
            ("linear", 7, 4, 2, "pp"), ("linear", 7, 6, 2, "fnn"), ("linear", 7, 6, 3, "ppp"), ("linear", 9, 4, 1, "fn"),
            ("circular", 11, 6, 2, "fnn"), ("circular", 11, 6, 3, "ppp"), ("circular", 11, 9, 2, "fnn"),
            ("circular", 11, 10, 2, "nnn"), ("circular", 9, 3, 7, "lp"), ("circular", 9, 1, 7, "lp"),
            ("circular", 9, 0, 7, "pp"), ("circular", 9, 1, 6, "lpp"),
        ):
            self.assertEqual(route, self.short(row_of(kind, many), start, target), (kind, many, start, target))

    def test_no_route_is_shorter_and_each_leads_there(self):
        for kind in ("linear", "circular"):
            for many in range(1, 10):
                tree = row_of(kind, many)
                for start in range(many):
                    for target, least in distances(tree, f"m{start}").items():
                        self.assert_route(tree, f"m{start}", target, least)

    def assert_route(self, tree, start, target, least):
        route = route_within(tree, start, target)
        self.assertEqual(least, len(route), (start, target))
        item = start
        for movement in route:
            item = moved(tree, item, movement)
        self.assertEqual(target, item)

    def test_lists_are_not_shared(self):
        tree = row_of("linear", 3)
        route_within(tree, "m0", "m1").append("more")
        self.assertEqual([NEXT], route_within(tree, "m0", "m1"))

    def test_the_outermost_composite_decides(self):
        tree = tree_of('  circular out ""', '    item a ""', '    linear in ""', '      item b ""', '      item c ""')
        self.assertEqual([PREVIOUS], route_within(tree, "a", "c"))
        self.assertEqual([NEXT], route_within(tree, "c", "a"))
        self.assertEqual([NEXT], route_within(tree, "b", "c"))


class ShortestRouteTest(ManagerCase):
    def stops(self, many):
        return self.manager_of(*[f'  item i{number} ""' for number in range(many)])

    def test_along_tab_stops(self):
        next_stop, previous_stop = "focusNext", "focusPrevious"
        for many, rows in ((1, ([],)), (2, ([], [next_stop])), (3, ([], [next_stop], [previous_stop])),
                           (4, ([], [next_stop], [next_stop] * 2, [previous_stop])),
                           (5, ([], [next_stop], [next_stop] * 2, [previous_stop] * 2, [previous_stop]))):
            manager = self.stops(many)
            for start in range(many):
                manager.focus(f"i{start}")
                for target in range(many):
                    self.assertEqual(rows[(target - start) % many], manager.shortest_route(f"i{target}"))

    def sample(self):
        return self.manager_of(
            '  item a ""', '  linear bar ""', '    item b ""', '    item c ""', '    item d ""', '    item e ""',
            '  item f ""', '  circular ring ""', '    item g ""', '    item h ""', '    item i ""', '  item j ""',
            '  item k "" hidden', '  layer one ""', '    item l ""', '    linear two ""', '      item m ""')

    def test_within_the_composite_of_the_focused_item(self):
        manager = self.sample()
        manager.focus("c")
        for item, route in (("b", [PREVIOUS]), ("c", []), ("d", [NEXT]), ("e", [LAST])):
            self.assertEqual(route, manager.shortest_route(item))

    def test_into_a_composite_by_its_entry_item(self):
        manager = self.sample()
        self.assertEqual(["focusNext"], manager.shortest_route("b"))
        self.assertEqual(["focusNext", NEXT], manager.shortest_route("c"))
        self.assertEqual(["focusNext", LAST], manager.shortest_route("e"))
        self.assertEqual(["focusPrevious"] * 2 + [PREVIOUS], manager.shortest_route("i"))
        manager.focus("d")
        manager.focus("h")
        manager.focus("a")
        self.assertEqual(["focusNext", FIRST], manager.shortest_route("b"))
        self.assertEqual(["focusNext"], manager.shortest_route("d"))
        self.assertEqual(["focusNext", NEXT], manager.shortest_route("e"))
        self.assertEqual(["focusPrevious"] * 2, manager.shortest_route("h"))
        self.assertEqual(["focusPrevious"] * 2 + [PREVIOUS], manager.shortest_route("g"))
        self.assertEqual(["focusPrevious"] * 2 + [NEXT], manager.shortest_route("i"))

    def test_from_one_composite_to_another_one(self):
        manager = self.sample()
        manager.focus("c")
        self.assertEqual(["focusNext", "focusNext"], manager.shortest_route("g"))
        self.assertEqual(["focusNext", "focusNext", NEXT], manager.shortest_route("h"))
        self.assertEqual(["focusPrevious"], manager.shortest_route("a"))

    def test_in_the_topmost_layer_only(self):
        manager = self.sample()
        manager.open_layer("one")
        self.assertEqual([], manager.shortest_route("l"))
        self.assertEqual(["focusNext"], manager.shortest_route("m"))
        self.assert_refused("item is not focusable", manager.shortest_route, "a")

    def test_errors(self):
        manager = self.sample()
        for name in ("nobody", "", "Root"):
            self.assert_refused("unknown node", manager.shortest_route, name)
        for name in ("root", "bar", "ring", "one", "k", "l", "m", "two"):
            self.assert_refused("item is not focusable", manager.shortest_route, name)

    def test_without_any_focusable_item(self):
        manager = self.manager_of('  item a "" hidden', '  layer b ""', '    item c ""')
        self.assert_refused("item is not focusable", manager.shortest_route, "a")
        self.assert_refused("item is not focusable", manager.shortest_route, "c")
        self.assert_refused("unknown node", manager.shortest_route, "d")

    def test_no_route_is_shorter_and_each_leads_there(self):
        kinds = ("item", "item", "item", "linear", "circular", "container")
        for seed in range(30):
            manager = Manager(write_outline(random_tree(seed, 12, 0.03, kinds)))
            for start in manager.focusable_items("root"):
                manager.focus(start)
                self.walk_everywhere(manager)

    def walk_everywhere(self, manager):
        start = places(manager)
        for target, least in distances_from(manager).items():
            go_to(manager, start)
            route = manager.shortest_route(target)
            self.assertEqual(start, places(manager))
            self.assertEqual(least, len(route), (start, target))
            for word in route:
                getattr(manager, STEPS[word])()
            self.assertEqual(target, manager.focused())


if __name__ == "__main__":
    unittest.main()
