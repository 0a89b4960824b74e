"""Steps between places of four, and between spots.

words are the words told, four for places of four, three for spots.
"""

STEADY = ((0, 1), (2, 3))
CHANGE = ((0, 2), (1, 3))


def next_letter(words, place, at):
    """The next letter to be read of the word with this number, empty if all are read."""
    return words[at][place[at]:place[at] + 1]


def read_on(place, one, other):
    """The place behind it, a letter more being read in these two words, or in one told twice."""
    return tuple([many + 1 if at == one or at == other else many for at, many in enumerate(place)])


def places_behind(words, place, pairs):
    """The places to which steps lead that read one letter in the two words of one of the pairs."""
    found = []
    for one, other in pairs:
        letter = next_letter(words, place, one)
        if letter != "" and letter == next_letter(words, place, other):
            found.append(read_on(place, one, other))
    return found


def steps_of_four(words, place):
    """The places of four to which steps lead."""
    return places_behind(words, place, STEADY + CHANGE)


def silent_steps(words, spot):
    """The spots to which steps lead that give no letter."""
    return places_behind(words, spot, ((0, 1), (0, 2)))


def giving_steps(words, spot):
    """The pairs of a letter that a step gives and the spot to which this step leads."""
    letters = [(next_letter(words, spot, at), at) for at in (1, 2)]
    return [(letter, read_on(spot, at, at)) for letter, at in letters if letter != ""]


def steps_of_spot(words, spot):
    """The spots to which steps lead."""
    return silent_steps(words, spot) + [after for _, after in giving_steps(words, spot)]


def first_place(words):
    """No letter of any word is read."""
    return tuple([0 for _ in words])


def last_place(words):
    """All letters of each word are read."""
    return tuple([len(word) for word in words])


def steps_from(words, place):
    """The places of four, or of three words the spots, to which steps lead."""
    return steps_of_four(words, place) if len(words) == 4 else steps_of_spot(words, place)


def all_places(words):
    """The least closed lot of places of four, or of spots, ascending."""
    waiting = [first_place(words)]
    there = {waiting[0]: True}
    while len(waiting) > 0:
        place = waiting.pop()
        for after in steps_from(words, place):
            if after not in there:
                there[after] = True
                waiting.append(after)
    return sorted(there)
