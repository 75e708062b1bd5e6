"""Points 25 to 28: the queue of announcements, and the tracker that follows them."""

import random
import unittest

from keyfocus.announcing import Announcements, Tracker
from keyfocus.errors import Refused


def steps_of(names, label=""):
    """A tuple of a step for each of some names."""
    return tuple((name, "item", label + name, 0, 0) for name in names)


def path(exited, *names, label=""):
    """A path announcement."""
    return "path", exited, steps_of(names, label)


def polite(text):
    return "message", text, False


def assertive(text):
    return "message", text, True


class AnnouncementsCase(unittest.TestCase):
    def setUp(self):
        self.told = Announcements()

    def tell(self, *names, label=""):
        self.assertIsNone(self.told.tell(list(names), steps_of(names, label)))

    def message(self, text, is_assertive):
        self.assertIsNone(self.told.message(text, is_assertive))

    def assert_queue(self, *expected):
        self.assertEqual(list(expected), self.told.queue())

    def assert_refused(self, call, *arguments):
        before = self.told.queue()
        with self.assertRaises(Refused) as caught:
            call(*arguments)
        self.assertEqual("too many queued messages", caught.exception.what)
        self.assertEqual(before, self.told.queue())


class PathTest(AnnouncementsCase):
    def test_nothing_at_first(self):
        self.assert_queue()
        self.assertIsNone(self.told.take())
        self.tell()
        self.assert_queue()

    def test_the_first_path(self):
        self.tell("root", "a")
        self.assert_queue(path(0, "root", "a"))
        self.assertEqual(path(0, "root", "a"), self.told.take())
        self.assert_queue()
        self.assertIsNone(self.told.take())

    def test_the_steps_are_told_as_they_are(self):
        steps = (("root", "layer", "Shop", 0, 0), ("bar", "linear", 'a "b"', 0, 0), ("x", "item", "", 2, 3))
        self.told.tell(["root", "bar", "x"], steps)
        self.assert_queue(("path", 0, steps))

    def test_only_what_differs_is_told(self):
        for old, new, expected in (
            (("root", "a"), ("root", "b"), path(1, "b")),
            (("root", "a"), ("root", "a", "b"), path(0, "b")),
            (("root", "a", "b"), ("root", "a"), path(1)),
            (("root", "a", "b"), ("top", "a", "b"), path(3, "top", "a", "b")),
            (("root", "a", "b"), ("root", "c", "b"), path(2, "c", "b")),
            (("root", "a"), ("root", "b", "a"), path(1, "b", "a")),
            (("root", "a"), (), path(2)),
            (("root",), ("root", "a", "b", "c"), path(0, "a", "b", "c")),
        ):
            self.told = Announcements()
            self.tell(*old)
            self.told.take()
            self.tell(*new)
            self.assert_queue(expected)

    def test_a_path_that_is_told_again(self):
        self.tell("root", "a")
        self.tell("root", "a")
        self.assert_queue(path(0, "root", "a"))
        self.told.take()
        self.tell("root", "a")
        self.assert_queue()
        self.assertIsNone(self.told.take())

    def test_steps_that_change_while_the_names_stay(self):
        self.tell("root", "a", label="old ")
        self.tell("root", "a", label="new ")
        self.assert_queue(path(0, "root", "a", label="old "))
        self.told.take()
        self.tell("root", "a", label="newer ")
        self.assert_queue()

    def test_neighbours_are_merged_with_the_steps_of_the_last_one(self):
        self.tell("root", "a", label="old ")
        self.tell("root", "b", label="new ")
        self.assert_queue(path(0, "root", "b", label="new "))
        self.tell("root", "b", "c", label="newer ")
        self.assert_queue(path(0, "root", "b", "c", label="newer "))

    def test_from_the_beginning_of_the_first_one_to_the_end_of_the_last_one(self):
        self.tell("root", "a", "b")
        self.told.take()
        self.tell("root", "c")
        self.tell("root", "a", "d")
        self.assert_queue(path(1, "d"))
        self.tell("root")
        self.assert_queue(path(2))
        self.tell("root", "a", "b", "e")
        self.assert_queue(path(0, "e"))

    def test_a_path_that_leads_back_to_its_beginning(self):
        self.tell("root", "a")
        self.told.take()
        self.tell("root", "b")
        self.tell("root", "a")
        self.assert_queue()
        self.assertIsNone(self.told.take())
        self.tell("root", "b")
        self.assert_queue(path(1, "b"))

    def test_back_to_the_empty_path(self):
        self.tell("root", "a")
        self.tell()
        self.assert_queue()
        self.tell("root")
        self.assert_queue(path(0, "root"))

    def test_the_last_path_was_taken_already(self):
        self.tell("root", "a")
        self.tell("root", "b")
        self.assertEqual(path(0, "root", "b"), self.told.take())
        self.tell("root", "c", "d")
        self.assertEqual(path(1, "c", "d"), self.told.take())
        self.tell("root", "c")
        self.assertEqual(path(1), self.told.take())

    def test_the_list_that_was_passed_may_change_later(self):
        names = ["root", "a"]
        self.told.tell(names, steps_of(names))
        names.append("b")
        self.assert_queue(path(0, "root", "a"))
        self.told.tell(names, steps_of(names))
        self.assert_queue(path(0, "root", "a", "b"))
        names[:] = ["root", "a"]
        self.told.tell(names, steps_of(names))
        self.assert_queue(path(0, "root", "a"))

    def test_the_list_that_was_returned_may_change_later(self):
        self.tell("root")
        self.message("one", False)
        self.told.queue().clear()
        self.told.queue().append(polite("two"))
        self.assert_queue(path(0, "root"), polite("one"))

    def test_objects_share_nothing(self):
        self.tell("root")
        other = Announcements()
        self.assertEqual([], other.queue())
        other.message("one", False)
        self.assert_queue(path(0, "root"))


class MessageTest(AnnouncementsCase):
    def test_polite_messages_are_put_at_the_end(self):
        self.message("one", False)
        self.tell("root")
        self.message("two", False)
        self.message("", False)
        self.message("two", False)
        self.assert_queue(polite("one"), path(0, "root"), polite("two"), polite(""), polite("two"))
        self.assertEqual(polite("one"), self.told.take())
        self.assertEqual(path(0, "root"), self.told.take())
        self.assertEqual(polite("two"), self.told.take())
        self.assert_queue(polite(""), polite("two"))

    def test_paths_with_a_message_between_stay_apart(self):
        self.tell("root", "a")
        self.message("one", False)
        self.tell("root", "b")
        self.tell("root", "c")
        self.message("two", False)
        self.tell("root", "a")
        self.assert_queue(path(0, "root", "a"), polite("one"), path(1, "c"), polite("two"), path(1, "a"))

    def test_a_removed_path_leaves_the_messages(self):
        self.tell("root", "a")
        self.message("one", False)
        self.tell("root", "b")
        self.tell("root", "a")
        self.assert_queue(path(0, "root", "a"), polite("one"))
        self.tell("root", "b")
        self.assert_queue(path(0, "root", "a"), polite("one"), path(1, "b"))

    def test_assertive_messages_stand_ahead_in_their_order(self):
        self.tell("root", "a")
        self.message("one", True)
        self.assert_queue(assertive("one"), path(0, "root", "a"))
        self.message("two", True)
        self.message("one", True)
        self.assert_queue(assertive("one"), assertive("two"), assertive("one"), path(0, "root", "a"))
        self.message("three", False)
        self.assert_queue(assertive("one"), assertive("two"), assertive("one"), path(0, "root", "a"), polite("three"))

    def test_an_assertive_one_removes_the_polite_ones(self):
        self.message("one", False)
        self.message("two", False)
        self.message("three", True)
        self.assert_queue(assertive("three"))
        self.message("four", False)
        self.message("five", True)
        self.assert_queue(assertive("three"), assertive("five"))

    def test_two_paths_become_neighbours(self):
        self.tell("root", "a", label="old ")
        self.message("one", False)
        self.tell("root", "a", "b", label="new ")
        self.message("two", True)
        self.assert_queue(assertive("two"), path(0, "root", "a", "b", label="new "))

    def test_three_paths_become_neighbours(self):
        self.tell("root", "a")
        self.told.take()
        self.tell("root", "b")
        self.message("one", False)
        self.tell("root", "c", "d")
        self.message("two", False)
        self.message("three", False)
        self.tell("root", "c")
        self.message("four", True)
        self.assert_queue(assertive("four"), path(1, "c"))

    def test_two_that_lead_back_to_their_beginning(self):
        self.tell("root", "a")
        self.told.take()
        self.tell("root", "b")
        self.message("one", False)
        self.tell("root", "a")
        self.message("two", True)
        self.assert_queue(assertive("two"))

    def test_two_of_three_lead_back_to_their_beginning(self):
        for names, expected in (
            ((("root", "b"), ("root", "a"), ("root", "c")), (path(1, "c"),)),
            ((("root", "b"), ("root", "c"), ("root", "b")), (path(1, "b"),)),
            ((("root", "b"), ("root", "c"), ("root", "a")), ()),
            ((("root", "b"), ("root", "a"), ("root", "b"), ("root", "a")), ()),
            ((("root", "b"), ("root", "a"), ("root", "b"), ("root", "d")), (path(1, "d"),)),
        ):
            self.told = Announcements()
            self.tell("root", "a")
            self.told.take()
            for new in names:
                self.tell(*new)
                self.message("polite", False)
            self.message("loud", True)
            self.assert_queue(assertive("loud"), *expected)

    def test_paths_behind_a_merged_one_are_merged_with_it(self):
        self.tell("root", "a")
        self.message("one", False)
        self.tell("root", "b")
        self.message("two", True)
        self.tell("root", "c")
        self.assert_queue(assertive("two"), path(0, "root", "c"))

    def test_the_40th_and_the_41st_message(self):
        for kinds in ((False,), (True,), (True, False)):
            self.told = Announcements()
            self.tell("root")
            # Assertive ones first: they would remove the polite ones.
            for number in range(40):
                self.message(f"m{number}", kinds[number * len(kinds) // 40])
            self.assertEqual(41, len(self.told.queue()))
            self.assert_refused(self.told.message, "more", False)
            self.assert_refused(self.told.message, "more", True)
            self.told.take()
            if kinds[0]:
                self.message("more", False)
            else:
                # A path has been taken, and 40 messages are left.
                self.assert_refused(self.told.message, "more", False)

    def test_39_messages_and_many_paths(self):
        for number in range(39):
            self.message("one", False)
            self.tell("root", f"n{number}")
        self.assertEqual(78, len(self.told.queue()))
        self.message("the 40th", False)
        self.assert_refused(self.told.message, "the 41st", True)
        self.assert_refused(self.told.message, "the 41st", False)
        self.tell("root", "still")
        self.assertEqual(80, len(self.told.queue()))
        self.told.take()
        self.message("loud", True)
        self.assert_queue(assertive("loud"), path(0, "root", "still"))


class TrackerTest(unittest.TestCase):
    def setUp(self):
        self.tracker = Tracker()

    def apply(self, *announcements):
        for announcement in announcements:
            self.assertIsNone(self.tracker.apply(announcement))

    def assert_refused(self, what, announcement):
        before = self.tracker.path()
        with self.assertRaises(Refused) as caught:
            self.tracker.apply(announcement)
        self.assertEqual(what, caught.exception.what)
        self.assertEqual(before, self.tracker.path())

    def names(self, many):
        return [f"n{number}" for number in range(many)]

    def test_empty_at_first(self):
        self.assertEqual([], self.tracker.path())

    def test_paths(self):
        self.apply(path(0, "root", "a"))
        self.assertEqual(["root", "a"], self.tracker.path())
        self.apply(path(1, "b", "c"))
        self.assertEqual(["root", "b", "c"], self.tracker.path())
        self.apply(path(0, "d"))
        self.assertEqual(["root", "b", "c", "d"], self.tracker.path())
        self.apply(path(2))
        self.assertEqual(["root", "b"], self.tracker.path())
        self.apply(path(2, "top"))
        self.assertEqual(["top"], self.tracker.path())
        self.apply(path(1))
        self.assertEqual([], self.tracker.path())

    def test_messages_change_nothing(self):
        self.apply(polite("one"), assertive("two"))
        self.assertEqual([], self.tracker.path())
        self.apply(path(0, "root"), polite("path"), assertive(""))
        self.assertEqual(["root"], self.tracker.path())

    def test_not_enough_names(self):
        self.assert_refused("not enough names on the path", path(1))
        self.apply(path(0, "root", "a"))
        self.assert_refused("not enough names on the path", path(3, "b"))
        self.assert_refused("not enough names on the path", path(4))
        self.apply(path(2, "b"))
        self.assertEqual(["b"], self.tracker.path())

    def test_the_20th_and_the_21st_name(self):
        self.assert_refused("too many names on the path", path(0, *self.names(21)))
        self.apply(path(0, *self.names(20)))
        self.assertEqual(self.names(20), self.tracker.path())
        self.assert_refused("too many names on the path", path(0, "more"))

    def test_names_are_taken_away_first(self):
        self.apply(path(0, *self.names(19)))
        self.apply(path(5, "a", "b", "c", "d", "e", "f"))
        self.assertEqual(self.names(14) + list("abcdef"), self.tracker.path())
        self.assert_refused("too many names on the path", path(5, "a", "b", "c", "d", "e", "f"))
        self.apply(path(20, *self.names(20)))
        self.assert_refused("too many names on the path", path(20, *self.names(21)))

    def test_both_errors_at_once(self):
        self.assert_refused("not enough names on the path", path(1, *self.names(22)))
        self.apply(path(0, "root", "a"))
        self.assert_refused("not enough names on the path", path(3, *self.names(22)))
        self.assert_refused("not enough names on the path", path(30, *self.names(60)))

    def test_lists_are_not_shared(self):
        self.apply(path(0, "root"))
        self.tracker.path().append("a")
        self.assertEqual(["root"], self.tracker.path())
        self.assertEqual([], Tracker().path())


class ManyAnnouncementsTest(unittest.TestCase):
    PATHS = (("root",), ("root", "a"), ("root", "b"), ("root", "b", "c"), ("top", "a"), ("top",))

    def test_all_announcements_together_tell_the_path(self):
        for seed in range(60):
            chance = random.Random(seed)
            told, taken, names = Announcements(), [], ()
            for _ in range(60):
                deed = chance.randrange(6)
                if deed < 3:
                    names = chance.choice(self.PATHS)
                    told.tell(list(names), steps_of(names))
                elif deed < 5:
                    told.message("text", chance.random() < 0.3)
                elif told.queue():
                    first = told.queue()[0]
                    self.assertEqual(first, told.take())
                    taken.append(first)
                self.follow(taken + told.queue(), names)
                self.check(told.queue())

    def follow(self, announcements, names):
        tracker = Tracker()
        for announcement in announcements:
            tracker.apply(announcement)
        self.assertEqual(list(names), tracker.path())

    def check(self, queue):
        kinds = [announcement[0] if announcement[0] == "path" else announcement[2] for announcement in queue]
        self.assertNotIn(("path", "path"), list(zip(kinds, kinds[1:])))
        self.assertNotIn(True, kinds[kinds.count(True):])
        self.assertNotIn(("path", 0, ()), queue)


if __name__ == "__main__":
    unittest.main()
