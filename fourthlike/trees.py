"""Terms and patterns as trees: a hole is its number, anything else a tuple of a head and its parts."""

from fourthlike.checks import is_list, is_name, is_within
from fourthlike.errors import BadText
from fourthlike.texts import item_at, items_of, need_end, number_of

MOST_PARTS = 3
MOST_HEADS = 24
HOLE = "#"


def is_hole(tree):
    """Whether the tree is the number of a hole."""
    return isinstance(tree, int)


def is_tree(value):
    """Whether the value is a tree, of lists or tuples."""
    if not is_list(value):
        return is_within(value, 0, None)
    if not 1 <= len(value) <= MOST_PARTS + 1 or not is_name(value[0]):
        return False
    return all([is_tree(part) for part in value[1:]])


def holes_in(tree):
    """The numbers of the holes, each time they stand."""
    if is_hole(tree):
        return [tree]
    return [hole for part in tree[1:] for hole in holes_in(part)]


def size_of(tree):
    """How many heads and holes stand in the tree."""
    if is_hole(tree):
        return 1
    return 1 + sum([size_of(part) for part in tree[1:]])


def items_of_tree(tree):
    """The items of the text of the tree."""
    if is_hole(tree):
        return [HOLE + str(tree)]
    found = [tree[0]]
    for number, part in enumerate(tree[1:]):
        found.append("(" if number == 0 else ",")
        found.extend(items_of_tree(part))
    if len(tree) > 1:
        found.append(")")
    return found


def hole_of(item):
    """The number of the hole that the item writes, None if it writes none that may stand in a text."""
    if not item.startswith(HOLE):
        return None
    number = number_of(item[1:])
    return number if is_within(number, 0, MOST_HEADS - 1) else None


def many_ahead(items, at):
    """How many heads and holes stand ahead of this item."""
    return len([item for item in items[:at] if item not in ("(", ",", ")")])


def tree_at(items, at, with_holes):
    """The pair of the tree that begins with this item, and the index behind its last item."""
    item = item_at(items, at)
    if many_ahead(items, at) == MOST_HEADS:
        raise BadText(0, at)
    hole = hole_of(item) if with_holes else None
    if hole is not None:
        return hole, at + 1
    if not is_name(item):
        raise BadText(0, at)
    if items[at + 1:at + 2] != ["("]:
        return (item,), at + 1
    parts, behind = parts_at(items, at + 2, with_holes)
    return (item, *parts), behind


def parts_at(items, at, with_holes):
    """The pair of the list of the parts that begin there, and the index behind the bracket that ends them."""
    parts = []
    while True:
        part, at = tree_at(items, at, with_holes)
        parts.append(part)
        sign = item_at(items, at)
        if sign == ")":
            return parts, at + 1
        if sign != "," or len(parts) == MOST_PARTS:
            raise BadText(0, at)
        at += 1


def read_tree(text, with_holes):
    """The tree whose text this is, and the number of its items."""
    items = items_of(text)
    tree, behind = tree_at(items, 0, with_holes)
    need_end(items, behind)
    return tree, behind
