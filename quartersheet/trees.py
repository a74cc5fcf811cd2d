"""Trees of squares: a colour, or the tuple of the trees of the four quarters."""

from quartersheet.kinds import is_colour


def is_of_one_colour(parts):
    first = parts[0]
    # A parted square has several colours in it, and to compare two such would go through all of them.
    if isinstance(first, tuple):
        return False
    return all([part == first for part in parts])


def is_tree(thing, level):
    if is_colour(thing):
        return True
    if level == 0 or not isinstance(thing, tuple) or len(thing) != 4:
        return False
    return all([is_tree(part, level - 1) for part in thing]) and not is_of_one_colour(thing)


def gathered(parts):
    if is_of_one_colour(parts):
        return parts[0]
    return tuple(parts)


def parted(tree):
    if isinstance(tree, tuple):
        return tree
    return (tree, tree, tree, tree)


def tree_at(tree, code):
    for sign in code:
        tree = parted(tree)[int(sign)]
    return tree


def planted(tree, code, other):
    if code == "":
        return other
    parts = list(parted(tree))
    quarter = int(code[0])
    parts[quarter] = planted(parts[quarter], code[1:], other)
    return gathered(parts)
