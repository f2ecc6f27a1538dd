"""Monitors: tables that tell the verdict on every finite word."""

from promiseplay.conditions import spec_judge
from promiseplay.errors import InvalidLetter
from promiseplay.judges import ends_of
from promiseplay.refinement import merged_table

VERDICTS = {(0, 1): "open", (0,): "met", (1,): "broken"}


class Monitor:
    """The monitor of a specification, and the state that it is in."""

    def __init__(self, spec):
        judge = spec_judge(spec)
        verdicts = [VERDICTS[ends] for ends in ends_of(judge)]
        chosen, rows = merged_table(0, verdicts, judge.rows)
        self.verdicts = tuple([verdicts[state] for state in chosen])
        self.rows = tuple([tuple(row) for row in rows])
        self.state = 0

    @property
    def verdict(self):
        """The verdict of the current state."""
        return self.verdicts[self.state]

    def read(self, letter):
        """Go to the next state and return its verdict."""
        if letter < 0 or letter >= len(self.rows[0]):
            raise InvalidLetter("the letter is none over the signals")
        self.state = self.rows[self.state][letter]
        return self.verdict
