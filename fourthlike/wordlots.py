"""The fourths of three words, lot by lot of spots."""

from fourthlike.wordsteps import first_place, giving_steps, last_place, silent_steps, steps_of_spot


def useful_spots(words):
    """A dict of the spots from which steps lead to the last one."""
    a, b, c = words
    last = last_place(words)
    found = {last: True}
    spots = [(i, j, k) for i in range(len(a) + 1) for j in range(len(b) + 1) for k in range(len(c) + 1)]
    # A step leads to a greater spot only, so going down each step's end is known ahead.
    for spot in reversed(spots):
        if any([after in found for after in steps_of_spot(words, spot)]):
            found[spot] = True
    return found


class WordLots:
    """The lots of useful spots that the first letters of fourths lead to.

    A lot is an ascending tuple of spots. The same first letters lead to one lot,
    however many ways give them, so each fourth is counted once.
    """

    def __init__(self, a, b, c):
        self.words = (a, b, c)
        self.useful = useful_spots(self.words)
        self.counted = {}

    def lot_of(self, spots):
        """The lot of these spots and all that steps without a letter lead to from them."""
        there = {spot: True for spot in spots if spot in self.useful}
        waiting = list(there)
        while len(waiting) > 0:
            spot = waiting.pop()
            for after in silent_steps(self.words, spot):
                if after in self.useful and after not in there:
                    there[after] = True
                    waiting.append(after)
        return tuple(sorted(there))

    def first_lot(self):
        """The lot ahead of all letters."""
        return self.lot_of([first_place(self.words)])

    def lots_behind(self, lot):
        """The ascending list of the pairs of a next letter and the lot behind it."""
        behind = {}
        for spot in lot:
            for letter, after in giving_steps(self.words, spot):
                if after in self.useful:
                    behind.setdefault(letter, []).append(after)
        return [(letter, self.lot_of(behind[letter])) for letter in sorted(behind)]

    def many_from(self, lot):
        """How many ends of fourths there are from this lot on."""
        if last_place(self.words) in lot:
            return 1
        if lot not in self.counted:
            self.counted[lot] = sum([self.many_from(after) for _, after in self.lots_behind(lot)])
        return self.counted[lot]

    def ends_from(self, lot):
        """The ascending list of the ends of fourths from this lot on."""
        if last_place(self.words) in lot:
            return [""]
        return [letter + end for letter, after in self.lots_behind(lot) for end in self.ends_from(after)]

    def end_at(self, lot, number):
        """The end of a fourth with this number, ascending, from this lot on."""
        end = ""
        while last_place(self.words) not in lot:
            for letter, after in self.lots_behind(lot):
                many = self.many_from(after)
                if number < many:
                    break
                number = number - many
            end = end + letter
            lot = after
        return end
