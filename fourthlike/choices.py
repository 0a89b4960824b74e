"""Choices of inner terms that give way to holes, counted and listed.

A lot of holes is told as a number: hole k adds two to the power k.
"""


def tails_of(parts):
    """For each index the lots of holes that are put into the parts from there on, with how many choices."""
    tails = [{0: 1}]
    for part in reversed(parts):
        found = {}
        for lot in part.ways:
            for rest in tails[-1]:
                found[lot | rest] = found.get(lot | rest, 0) + part.ways[lot] * tails[-1][rest]
        tails.append(found)
    return tails[::-1]


class Choice:
    """A term in which inner terms can be chosen, each of them the first term of some hole.

    holes has the holes to which the whole term can give way; ways tells for each lot of holes
    how many choices put in just these; tails tells it of the parts from each one on.
    """

    def __init__(self, term, firsts):
        self.head = term.head
        self.holes = [hole for hole, first in enumerate(firsts) if first == term]
        self.choices = [Choice(part, firsts) for part in term.parts]
        self.tails = tails_of(self.choices)
        self.ways = {lot: self.tails[0][lot] for lot in self.tails[0]}
        # No term is an inner term of its own parts, so nothing in them gives way to these holes.
        for hole in self.holes:
            self.ways[1 << hole] = 1

    def trees_for(self, lot):
        """The trees that the choices make which put in just the holes of the lot."""
        found = [hole for hole in self.holes if 1 << hole == lot]
        return found + [(self.head, *parts) for parts in self.rows_for(0, lot)]

    def rows_for(self, at, lot):
        """The tuples of the trees of the parts from this one on, likewise."""
        if at == len(self.choices):
            return [()] if lot == 0 else []
        found = []
        # Only what has a choice is gone into, so nothing is listed that leads to no tree.
        for one in self.choices[at].ways:
            rests = [rest for rest in self.tails[at + 1] if one | rest == lot]
            if len(rests) > 0:
                trees = self.choices[at].trees_for(one)
                found.extend([(tree, *row) for rest in rests for row in self.rows_for(at + 1, rest) for tree in trees])
        return found


def all_holes(firsts):
    """The lot of all holes."""
    return (1 << len(firsts)) - 1


def many_choices(term, firsts):
    """How many choices in the term put in each hole at least once."""
    return Choice(term, firsts).ways.get(all_holes(firsts), 0)


def chosen_trees(term, firsts):
    """The trees that these choices make."""
    choice = Choice(term, firsts)
    lot = all_holes(firsts)
    return choice.trees_for(lot) if lot in choice.ways else []
