"""What rows can be asked about the rows beside them, by kept flags alone, to tell what they are."""

from toldbyrest.choices import told_apart
from toldbyrest.left import by_kept_flags, left_of


class Questions:
    """Questions of the rows of a table, and what the views of the table tell of the answers.

    A question is asked through a column, and is a tuple (place, met, unmet): is there, at the
    value that the row has in the column, a row at the place with kept flags of the first list?
    It tells rows that find some of these from rows that find none but those of the second
    list. So it becomes a "has" with any condition that tells the one list from the other one.
    """

    def __init__(self, kinds, lacking, table):
        left = left_of(kinds)
        self._kinds = kinds
        self._lacking = lacking
        self._own_table = table
        self._by_kept = {name: by_kept_flags(kinds, left, lacking, name) for name in kinds.schema.tables}
        self._meetings_left = kinds.sieve.all_possible(left)
        self._asked = {column: [] for column, _ in kinds.schema.columns(table)}

    def tell_apart(self, one, other):
        """Ask through some column what tells two views apart, with few new questions; one round strikes their pair."""
        found = []
        for column, kind in self._kinds.schema.columns(self._own_table):
            asked = self._asked_with(column, kind, one, other)
            if asked is not None:
                found.append((len(asked) - len(self._asked[column]), column, asked))
        _, column, asked = min(found, key=lambda part: part[0])
        self._asked[column] = asked

    def conditions(self):
        """Return the list of the conditions that the questions become."""
        return [
            ("has", column) + place + (self._telling_flags(place[0], met, unmet),)
            for column, asked in self._asked.items() for place, met, unmet in asked
        ]

    def answers(self, view):
        """Return the list of what a row that is a view may be answered.

        Each is a tuple with True, False, or None for either, for each question.
        """
        found = [()]
        for column, kind in self._kinds.schema.columns(self._own_table):
            parts = [self._answers_by(column, kind, number) for number in self._meetings(column, kind, view)]
            found = _different([answers + part for answers in found for part in parts])
        return found

    def _answers_by(self, column, kind, number):
        """Return what rows are answered through a column if its value has a meeting."""
        return tuple([self._answer(kind, number, question) for question in self._asked[column]])

    def _answer(self, kind, number, question):
        place, met, unmet = question
        asked = [givers for where, givers in self._asked_by(kind, number) if where == place]
        if any([_are_among(self._kept_at(place, kind, number, givers), met) for givers in asked]):
            return True
        return False if _are_among(self._kept_at(place, kind, number, -1), unmet) else None

    def _asked_with(self, column, kind, one, other):
        """Return the questions through a column with those that tell two views apart, or None if they do not."""
        asked = self._asked[column]
        for first in self._meetings(column, kind, one):
            for second in self._meetings(column, kind, other):
                found = self._asked_for(asked, kind, first, second) + self._asked_for(asked, kind, second, first)
                if not found:
                    return None
                asked = min(found, key=len)
        return asked

    def _asked_for(self, asked, kind, first, second):
        """Return the lists of the questions with each one that is met by one meeting and not met by another one."""
        found = []
        for place, givers in self._asked_by(kind, first):
            met = self._kept_at(place, kind, first, givers)
            unmet = self._kept_at(place, kind, second, -1)
            if _are_apart(met, unmet):
                found.append(_joined(asked, place, met, unmet))
        return found

    def _asked_by(self, kind, number):
        return self._kinds.needs[kind][number]

    def _meetings(self, column, kind, view):
        """Return the meetings that a value of a row that is a view may have."""
        fitting = self._kinds.fitting[(self._own_table, column)]
        return [number for number in self._meetings_left[kind] if fitting[number] >> view & 1]

    def _kept_at(self, place, kind, number, among):
        """Return the ascending list of the kept flags of rows at a place that fit a meeting, among some views."""
        by_kept = self._by_kept[place[0]]
        bits = self._kinds.fitting[place][number] & among
        return [flags for flags in sorted(by_kept) if by_kept[flags] & bits]

    def _telling_flags(self, table, met, unmet):
        kept = [flag for flag in self._kinds.schema.flags(table) if (table, flag) not in self._lacking]
        return told_apart([("flag", flag) for flag in kept], met, unmet)


def _joined(asked, place, met, unmet):
    """Return the questions with one more, as a part of one of them if it can be."""
    for at, (own, more, less) in enumerate(asked):
        if own == place and _are_apart(more + met, less + unmet):
            return asked[:at] + [(place, _different(more + met), _different(less + unmet))] + asked[at + 1:]
    return asked + [(place, met, unmet)]


def _different(found):
    return list({part: True for part in found})


def _are_apart(ones, others):
    return not any([part in others for part in ones])


def _are_among(ones, others):
    return all([part in others for part in ones])
