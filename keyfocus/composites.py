"""Movements from one member of a composite to another one."""

from keyfocus.taborder import composite_of, members


def _beside(row, at, step, circular):
    """The member a step away from the one at an index of a row; at an end it may stay."""
    if circular:
        return row[(at + step) % len(row)]
    return row[min(max(at + step, 0), len(row) - 1)]


def moved(tree, item, movement):
    """The member that nextItem, previousItem, firstItem or lastItem leads to from a member."""
    composite = composite_of(tree, item)
    row = members(tree, composite)
    if movement == "firstItem":
        return row[0]
    if movement == "lastItem":
        return row[-1]
    step = 1 if movement == "nextItem" else -1
    return _beside(row, row.index(item), step, tree.kind(composite) == "circular")


def found_by(tree, item, text):
    """The member that typeahead leads to from a member."""
    row = members(tree, composite_of(tree, item))
    behind = row.index(item) + 1
    # The current member comes last, so it also stands for a text that no label starts with.
    for member in row[behind:] + row[:behind]:
        if tree.label(member).lower().startswith(text.lower()):
            return member
    return item
