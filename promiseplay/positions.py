"""The positions of an expression: the letters that occur in it, and how they can follow each other."""


class Positions:
    """The positions of expressions, which are numbered from 0.

    `letters` has the letter of each position, `follow` the positions, as binary digits,
    that can come next in a word of the expression.
    """

    def __init__(self):
        self.letters = []
        self.follow = []

    def enter(self, expression):
        """Number the positions of an expression; return what its words can begin and end with.

        This is a triple: whether the empty word is one of them, and as binary digits the
        positions that can come first and those that can come last.
        """
        kind = expression[0]
        if kind == "letter":
            place = 1 << len(self.letters)
            self.letters.append(expression[1])
            self.follow.append(0)
            return (False, place, place)
        if kind in ("none", "empty"):
            return (kind == "empty", 0, 0)
        empty, firsts, lasts = self.enter(expression[1])
        if kind == "star":
            self.connect(lasts, firsts)
            return (True, firsts, lasts)
        other_empty, other_firsts, other_lasts = self.enter(expression[2])
        if kind == "either":
            return (empty or other_empty, firsts | other_firsts, lasts | other_lasts)
        self.connect(lasts, other_firsts)
        return (empty and other_empty, firsts | (other_firsts if empty else 0),
                other_lasts | (lasts if other_empty else 0))

    def connect(self, lasts, firsts):
        """Let some positions come behind some others."""
        for place in range(len(self.letters)):
            if (lasts >> place) & 1:
                self.follow[place] |= firsts

    def with_letter(self, letter):
        """The positions, as digits, that have a letter."""
        found = 0
        for place, other in enumerate(self.letters):
            if other == letter:
                found |= 1 << place
        return found
