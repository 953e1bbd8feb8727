"""A desk: it keeps fours under names, is told lines, and takes them back."""

from bendsigns.desk_asks import answer_of
from bendsigns.desk_deeds import changed
from bendsigns.desk_lines import is_ask
from bendsigns.errors import BadDesk, BadLine, BendError, Nothing
from bendsigns.shelves import Shelf


class Desk:
    """A desk that keeps nothing yet."""

    def __init__(self):
        self.shelf = Shelf()
        self.story = ()
        # The shelf ahead of each line of the story, and the lines that were taken back with the shelves behind them.
        self._past = []
        self._undone = []

    def __eq__(self, other):
        return isinstance(other, Desk) and self.shelf == other.shelf

    def __len__(self):
        return len(self.shelf.names)

    def __contains__(self, x):
        return isinstance(x, str) and x in self.shelf.names

    def __call__(self, line):
        """Tell this desk one line: the answer."""
        if is_ask(line):
            return answer_of(self.shelf, line)
        shelf, answer = changed(self.shelf, line)
        self._go_on(line, shelf)
        self._undone = []
        return answer

    def _go_on(self, line, shelf):
        """Put one more line into the story, and the shelf behind it in the place of this one."""
        self._past.append(self.shelf)
        self.shelf = shelf
        self.story = self.story + (line,)

    def _stand_as(self, other):
        """Stand in all as another desk does."""
        self.shelf = other.shelf
        self.story = other.story
        self._past = list(other._past)
        self._undone = list(other._undone)

    def told(self, *lines):
        """Tell this desk lines, one behind another: the tuple of the answers."""
        desk = self.twin()
        answers = []
        for index, line in enumerate(lines):
            try:
                answers.append(desk(line))
            except BendError as error:
                raise BadLine(index, error) from None
        self._stand_as(desk)
        return tuple(answers)

    def tried(self, *lines):
        """What `told` returns or raises; this desk stays as it is."""
        desk = self.twin()
        return desk.told(*lines)

    def undo(self):
        """Take back the last line of the story: this line."""
        if not self.story:
            raise Nothing()
        line = self.story[-1]
        self._undone.append((line, self.shelf))
        self.shelf = self._past.pop()
        self.story = self.story[:-1]
        return line

    def redo(self):
        """Do again the line that was taken back last: this line."""
        if not self._undone:
            raise Nothing()
        line, shelf = self._undone.pop()
        self._go_on(line, shelf)
        return line

    def twin(self):
        """A second desk that stands in all as this one."""
        desk = Desk()
        desk._stand_as(self)
        return desk


def need_desk(value, part):
    """Raise BadDesk with this part for what is no Desk."""
    if not isinstance(value, Desk):
        raise BadDesk(part)
