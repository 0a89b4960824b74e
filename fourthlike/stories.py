"""Stories of desks."""

from fourthlike.checks import is_list
from fourthlike.desk import Desk
from fourthlike.errors import BadDesk, BadLine, LikeError


def replay(lines):
    """A new desk that is told these deed lines."""
    if not is_list(lines) or not all([isinstance(line, str) for line in lines]):
        raise BadDesk("lines")
    desk = Desk()
    for index, line in enumerate(lines):
        try:
            desk.done(line)
        except LikeError as error:
            raise BadLine(index, error)
    return desk


def parting(one, other):
    """How many lines the stories of two desks begin with alike."""
    for part, desk in (("one", one), ("other", other)):
        if not isinstance(desk, Desk):
            raise BadDesk(part)
    many = 0
    for line, same in zip(one.story, other.story):
        if line != same:
            break
        many += 1
    return many
