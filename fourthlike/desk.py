"""A desk, which is told lines."""

from fourthlike.desk_asks import answer_of
from fourthlike.desk_deeds import changed
from fourthlike.desk_lines import is_ask
from fourthlike.errors import BadLine, LikeError, Nothing
from fourthlike.nameneeds import is_one_of
from fourthlike.tables import Table


class Desk:
    """A desk that keeps a table, and can take back what it was told."""

    def __init__(self):
        self.table = Table()
        self.story = ()
        self._behind = []
        self._undone = []

    def __call__(self, line):
        if is_ask(line):
            return answer_of(self.table, line)
        return self.done(line)

    def __len__(self):
        return len(self.table.cases)

    def __contains__(self, value):
        return is_one_of(value, self.table.names)

    def __eq__(self, other):
        return isinstance(other, Desk) and self.table == other.table

    def done(self, line):
        """Does a deed line, and returns its answer."""
        table, answer = changed(self.table, line)
        self.go_on_to(table, line)
        self._undone = []
        return answer

    def go_on_to(self, table, line):
        """Keeps this table now, behind this line of the story."""
        self._behind.append(self.table)
        self.table = table
        self.story = (*self.story, line)

    def take_over(self, other):
        """Becomes in all as the other desk."""
        self.table = other.table
        self.story = other.story
        self._behind = list(other._behind)
        self._undone = list(other._undone)

    def twin(self):
        """A desk that is in all as this one."""
        other = Desk()
        other.take_over(self)
        return other

    def told(self, *lines):
        """The tuple of the answers to the lines; the desk stays as it was if one raises an error."""
        trial = self.twin()
        answers = []
        for index, line in enumerate(lines):
            try:
                answers.append(trial(line))
            except LikeError as error:
                raise BadLine(index, error)
        self.take_over(trial)
        return tuple(answers)

    def tried(self, *lines):
        """As told, but the desk stays as it was."""
        return self.twin().told(*lines)

    def undo(self):
        """Takes back the last line of the story, and returns it."""
        if len(self.story) == 0:
            raise Nothing()
        line = self.story[-1]
        self._undone.append((line, self.table))
        self.table = self._behind.pop()
        self.story = self.story[:-1]
        return line

    def redo(self):
        """Does again the line that was taken back last, and returns it."""
        if len(self._undone) == 0:
            raise Nothing()
        line, table = self._undone.pop()
        self.go_on_to(table, line)
        return line
