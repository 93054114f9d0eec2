"""Boards: a state that is kept in fields, at rest or on the way to another one."""

from oldornew.charts import check_joined, check_names, word_of
from oldornew.errors import NoNumber, NothingDone, NotJoined
from oldornew.plain import as_tuples
from oldornew.readers import tells
from oldornew.steady import unlike_fields, with_value


class Board:
    """A state of a CHART, kept in fields. It has no items, so iteration raises TypeError."""

    def __init__(self, chart, name):
        self._word = word_of(chart, name)
        self._chart = as_tuples(chart)
        self._ends = (name, name)
        # What the WORD and the ends were ahead of each deed that can be taken back.
        self._past = []

    def __eq__(self, other):
        return (
            isinstance(other, Board) and self._chart == other._chart
            and self._word == other._word and self._ends == other._ends
        )

    def chart(self):
        return self._chart

    def word(self):
        return self._word

    def ends(self):
        return self._ends

    def is_at_rest(self):
        return self._ends[0] == self._ends[1]

    def fields_left(self):
        return tuple(unlike_fields(self._word, self._goal()))

    def _goal(self):
        """Return the WORD of the second end."""
        return word_of(self._chart, self._ends[1])

    def start(self, name):
        check_names(self._chart, (name,))
        here = self._ends[1]
        if not self.is_at_rest():
            raise NotJoined(here, name)
        check_joined(self._chart, here, name)
        self._do(self._word, (here, name))

    def change(self, field):
        if field not in self.fields_left():
            raise NoNumber(field)
        self._do(with_value(self._word, field, self._goal()[field]), self._ends)

    def finish(self):
        here = self._ends[1]
        self._do(self._goal(), (here, here))

    def _do(self, word, ends):
        self._past.append((self._word, self._ends))
        self._word = word
        self._ends = ends

    def look(self, reader):
        return tells(reader, self._word)

    def fits(self, reader):
        return self.look(reader) in self._ends

    def undo(self):
        if len(self._past) == 0:
            raise NothingDone()
        self._word, self._ends = self._past.pop()

    def deeds(self):
        return len(self._past)

    def twin(self):
        made = Board(self._chart, self._ends[1])
        made._word = self._word
        made._ends = self._ends
        made._past = list(self._past)
        return made
