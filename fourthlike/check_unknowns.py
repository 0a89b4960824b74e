"""Whether papers on what follows from told fours are right."""

from fourthlike.checks import are_ascending, is_just, is_row, is_within
from fourthlike.deeds import Deeds, NoDeeds, chained, first_fours, middles_exchanged, turned_about
from fourthlike.nameneeds import is_one_of
from fourthlike.rests import LEAST_BY, AllUnlike, Same, all_hold, are_rests, four_of_same, need_pairs, sum_with
from fourthlike.sublots import lots_below
from fourthlike.told import need_told_and_four, row_of
from fourthlike.weights import Breaks, Follows, Needed, Never, Times, diagonal_of, least_times, weights_of


def makes_with(told, numbers, weights, row):
    """Whether the value has whole weights of the told fours with these numbers that make the row."""
    if not is_row(weights) or len(weights) != len(numbers):
        return False
    rows = [row_of(told, told.fours[number]) for number in numbers]
    return all([sum_with(weights, [one[at] for one in rows]) == wanted for at, wanted in enumerate(row)])


def makes(told, weights, row):
    """Whether the value has whole weights of all told fours that make the row."""
    return makes_with(told, list(range(len(told))), weights, row)


def is_breaks(told, four, value):
    """Whether the value is a Breaks of the four."""
    if type(value) is not Breaks or not is_within(value.by, LEAST_BY, None):
        return False
    if not are_rests(value.rests, len(told.names), value.by):
        return False
    return all_hold(told, value.rests, value.by) and sum_with(row_of(told, four), value.rests) % value.by != 0


def shows_follows(told, four, value):
    """Whether value is a right Follows or Breaks."""
    need_told_and_four(told, four)
    if type(value) is Follows:
        return makes(told, value.weights, row_of(told, four))
    return is_breaks(told, four, value)


def is_never(told, four, numbers):
    """Whether the value has whole numbers with which all told fours hold, and not the asked one."""
    if not is_row(numbers) or len(numbers) != len(told.names):
        return False
    if any([sum_with(row_of(told, one), numbers) != 0 for one in told.fours]):
        return False
    return sum_with(row_of(told, four), numbers) != 0


def shows_times(told, four, value):
    """Whether value is a Times of the times of the four, or a right Never."""
    need_told_and_four(told, four)
    if type(value) is not Times:
        return type(value) is Never and is_never(told, four, value.numbers)
    row = row_of(told, four)
    number = least_times(diagonal_of(told), row)
    if number is None or not is_just(value.number, number):
        return False
    return makes(told, value.weights, [number * one for one in row])


def shows_needed(told, four, value):
    """Whether value is a Needed of as few told fours as can be, or a right Breaks."""
    need_told_and_four(told, four)
    if type(value) is not Needed:
        return is_breaks(told, four, value)
    row = row_of(told, four)
    if not are_ascending(value.numbers, len(told) - 1) or not makes_with(told, value.numbers, value.weights, row):
        return False
    lesser = lots_below(len(told), 0, len(value.numbers) - 1)
    return all([weights_of(told, numbers, row) is None for numbers in lesser])


def is_same(told, pairs, value):
    """Whether the value is a Same of one of the pairs."""
    if not any([is_just((value.one, value.other), (one, other)) for one, other in pairs]):
        return False
    return makes(told, value.weights, row_of(told, four_of_same(value.one, value.other)))


def shows_parted(told, pairs, value):
    """Whether value is a right AllUnlike, or a Same of any of the pairs."""
    need_pairs(told, pairs)
    if type(value) is Same:
        return is_same(told, pairs, value)
    if type(value) is not AllUnlike or not isinstance(value.papers, tuple) or len(value.papers) != len(pairs):
        return False
    fours = [four_of_same(one, other) for one, other in pairs]
    return all([is_breaks(told, four, paper) for four, paper in zip(fours, value.papers)])


def are_rows_ahead(numbers, many, ahead):
    """Whether the value has so many numbers of rows ahead."""
    return len(numbers) == many and all([is_within(number, 0, ahead - 1) for number in numbers])


def four_of(told, deed, fours):
    """The four that the deed gives, if the rows ahead give these; None for what is no deed."""
    if not isinstance(deed, tuple) or len(deed) == 0:
        return None
    word, told_ones = deed[0], deed[1:]
    if is_just(word, "told") and are_rows_ahead(told_ones, 1, len(told)):
        return told.fours[told_ones[0]]
    if is_just(word, "same") and len(told_ones) == 2 and all([is_one_of(one, told.names) for one in told_ones]):
        return told_ones + told_ones
    if is_just(word, "turned") and are_rows_ahead(told_ones, 1, len(fours)):
        return turned_about(fours[told_ones[0]])
    if is_just(word, "middles") and are_rows_ahead(told_ones, 1, len(fours)):
        return middles_exchanged(fours[told_ones[0]])
    if is_just(word, "chained") and are_rows_ahead(told_ones, 2, len(fours)):
        one, other = [fours[number] for number in told_ones]
        return chained(one, other) if one[2:] == other[:2] else None
    return None


def are_deeds(told, four, rows):
    """Whether the value has deeds the last one of which gives the four."""
    if not isinstance(rows, tuple):
        return False
    fours = []
    for deed in rows:
        found = four_of(told, deed, fours)
        if found is None:
            return False
        fours.append(found)
    return len(fours) > 0 and fours[-1] == tuple(four)


def is_closed_by_deeds(told, fours):
    """Whether these fours of unknowns have the told and the same ones, and all that the deeds make of them."""
    there = {four: True for four in fours}
    if not all([four in there for four, _ in first_fours(told)]):
        return False
    if not all([turned_about(four) in there and middles_exchanged(four) in there for four in fours]):
        return False
    begun = {}
    for four in fours:
        begun.setdefault(four[:2], []).append(four)
    return all([chained(one, other) in there for one in fours for other in begun.get(one[2:], [])])


def is_closed_without(told, four, fours):
    """Whether the value is a closed lot of fours, ascending, without this one."""
    if not isinstance(fours, tuple) or not all([isinstance(one, tuple) and len(one) == 4 for one in fours]):
        return False
    if not all([is_one_of(name, told.names) for one in fours for name in one]):
        return False
    if not all([one < after for one, after in zip(fours, fours[1:])]):
        return False
    return tuple(four) not in fours and is_closed_by_deeds(told, fours)


def shows_deeds(told, four, value):
    """Whether value is a right Deeds, or a NoDeeds of any closed lot without the four."""
    need_told_and_four(told, four)
    if type(value) is Deeds:
        return are_deeds(told, four, value.rows)
    return type(value) is NoDeeds and is_closed_without(told, four, value.fours)
