"""The shortest routes of movement commands."""

from keyfocus.taborder import composite_of, members


def _ways(start, target, many, circular):
    """The routes from one index to another one in a composite of many members."""
    ways = []
    if circular or start <= target:
        ways.append(["nextItem"] * ((target - start) % many))
    if circular or target <= start:
        ways.append(["previousItem"] * ((start - target) % many))
    ways.append(["firstItem"] + ["nextItem"] * target)
    ways.append(["lastItem"] + ["previousItem"] * (many - 1 - target))
    return ways


def route_within(tree, start, target):
    """The shortest route within a composite from one member to another one."""
    composite = composite_of(tree, start)
    row = members(tree, composite)
    ways = _ways(row.index(start), row.index(target), len(row), tree.kind(composite) == "circular")
    # Of equally short ones, min takes the first one.
    return min(ways, key=len)


def route_along(stops, start, target):
    """The shortest route from one tab stop of a layer to another one, of which the list is given."""
    ahead = (stops.index(target) - stops.index(start)) % len(stops)
    behind = len(stops) - ahead
    if behind < ahead:
        return ["focusPrevious"] * behind
    return ["focusNext"] * ahead
