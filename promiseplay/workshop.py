"""A workshop: specifications on sheets, and what is asked about them."""

from promiseplay.errors import BadJournal, DuplicateSignal, FormulaSyntaxError, InvalidLetter, Mismatch
from promiseplay.errors import NotRealizable, NotSafe, SpecSyntaxError, TooLarge, UnknownSignal
from promiseplay.inquiries import NONE, audit_reply, is_question, reply, watch_reply
from promiseplay.numerals import is_number, number_in, small_number
from promiseplay.shields import Shield
from promiseplay.signals import is_name
from promiseplay.spectext import parse_spec

OK = "OK"
NO_COMMAND = "NO COMMAND"
NO_SHEET = "NO SHEET"
NO_SHIELD = "NO SHIELD"
NOTHING = "NOTHING"

MOST_SHEETS = 8
MOST_CHARACTERS = 8
MOST_WATCHED = 3

# How many words the commands have that change something.
LENGTHS = {"DROP": 2, "UNDO": 1, "REDO": 1, "SHIELD": 2, "SAY": 3}


class Workshop:
    """A workshop.

    A change is a triple of a name and the specifications that its sheet had before and
    has since; None for no sheet. `done` has the changes that were not taken back, and
    `undone` those that can be done again. `written` is the journal.
    """

    def __init__(self):
        self.sheets = {}
        self.done = ()
        self.undone = ()
        self.shield = None
        self.written = ""

    def answer(self, text):
        """The answer to a text."""
        line, feed, rest = text.partition("\n")
        words = line.split(" ")
        if "" in words:
            return NO_COMMAND
        if feed != "":
            told, has_changed = self.answer_to_text(words, rest)
        elif words[0] in LENGTHS:
            told, has_changed = self.answer_to_order(words)
        else:
            told, has_changed = self.answer_to_question(words), False
        if has_changed:
            self.written += f"{len(text)}\n{text}\n"
        return told

    def journal(self):
        """The journal of all commands that changed something."""
        return self.written

    def answer_to_text(self, words, rest):
        """The answer to a command with a text behind its line, and whether it changed something."""
        if len(words) != 2:
            return NO_COMMAND, False
        if words[0] == "SHEET" and is_name(words[1]) and len(words[1]) <= MOST_CHARACTERS:
            refusal, spec = self.read_sheet(words[1], rest)
            return (OK, self.change(words[1], spec)) if refusal is None else (refusal, False)
        if words[0] == "AUDIT":
            return (audit_reply(self.sheets[words[1]], rest) if words[1] in self.sheets else NO_SHEET), False
        return NO_COMMAND, False

    def read_sheet(self, name, text):
        """What stands against a text for a sheet, or None; and its specification."""
        if name not in self.sheets and len(self.sheets) == MOST_SHEETS:
            return "NO ROOM", None
        try:
            return None, parse_spec(text)
        except SpecSyntaxError as error:
            return f"NO LINE {error.line}", None
        except (FormulaSyntaxError, DuplicateSignal, UnknownSignal):
            return "NO PROPERTY", None
        except TooLarge:
            return "NO SIZE", None

    def change(self, name, spec):
        """Give a specification to a sheet, or drop the sheet if it is None; return True."""
        self.done = self.done + ((name, self.sheets.get(name), spec),)
        self.undone = ()
        self.put(name, spec)
        return True

    def put(self, name, spec):
        """Let a sheet have a specification; None for no sheet."""
        if spec is None:
            del self.sheets[name]
        else:
            self.sheets[name] = spec

    def answer_to_order(self, words):
        """The answer to a command that may change something, and whether it did."""
        word = words[0]
        if len(words) != LENGTHS[word]:
            return NO_COMMAND, False
        if word == "UNDO":
            return self.undo()
        if word == "REDO":
            return self.redo()
        if word == "SAY":
            return self.say(words[1], words[2])
        if words[1] not in self.sheets:
            return NO_SHEET, False
        if word == "DROP":
            return OK, self.change(words[1], None)
        return self.begin_shield(self.sheets[words[1]])

    def undo(self):
        """Take back the last change."""
        if not self.done:
            return NOTHING, False
        name, before, _ = self.done[-1]
        self.undone = self.undone + (self.done[-1],)
        self.done = self.done[:-1]
        self.put(name, before)
        return OK, True

    def redo(self):
        """Do again what was taken back last."""
        if not self.undone:
            return NOTHING, False
        name, _, since = self.undone[-1]
        self.done = self.done + (self.undone[-1],)
        self.undone = self.undone[:-1]
        self.put(name, since)
        return OK, True

    def begin_shield(self, spec):
        """Begin a shield for a specification."""
        try:
            self.shield = Shield(spec)
        except Mismatch:
            return f"{NO_SHIELD} LEAD", False
        except NotSafe:
            return f"{NO_SHIELD} SAFE", False
        except NotRealizable:
            return f"{NO_SHIELD} KEPT", False
        return OK, True

    def say(self, heard, wish):
        """Let the shield hear a letter and a wish."""
        if not is_number(heard) or not is_number(wish):
            return NO_COMMAND, False
        if self.shield is None:
            return NO_SHIELD, False
        try:
            return str(self.shield.say(number_in(heard), number_in(wish))), True
        except InvalidLetter:
            return "NO LETTER", False

    def answer_to_question(self, words):
        """The answer to a command that changes nothing."""
        if words == ["NAMES"]:
            return " ".join(sorted(list(self.sheets))) if self.sheets else NONE
        if words == ["JOURNAL"]:
            return self.journal()
        names = words[1:]
        if words[0] == "WATCH" and 1 <= len(names) <= MOST_WATCHED:
            if not all([name in self.sheets for name in names]):
                return NO_SHEET
            return watch_reply([self.sheets[name] for name in names])
        if not names or not is_question(words[0], words[2:]):
            return NO_COMMAND
        return reply(self.sheets[names[0]], words[0], words[2:]) if names[0] in self.sheets else NO_SHEET


def replayed(text):
    """The workshop to which all commands of a journal were given."""
    found, end = replay_beginning(text)
    if end != len(text):
        raise BadJournal("the text is no journal")
    return found


def rescued(text):
    """The workshop of the longest beginning of a text that is a journal."""
    return replay_beginning(text)[0]


def replay_beginning(text):
    """The workshop of the longest beginning of a text that is a journal, and the length of this beginning."""
    found = Workshop()
    at = -1
    # What changes something is written into the journal as it stood in the text.
    while at < len(found.journal()):
        at = len(found.journal())
        command = command_at(text, at)
        if command is not None:
            found.answer(command)
    return found, at


def command_at(text, at):
    """The command of the piece of a journal that begins at an index, or None."""
    feed = text.find("\n", at)
    if feed < 0:
        return None
    count = small_number(text[at:feed], len(text))
    if count is None or text[feed + 1 + count:feed + 2 + count] != "\n":
        return None
    return text[feed + 1:feed + 1 + count]
