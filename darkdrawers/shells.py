"""Shells: cabinets that are used by lines of text."""

from darkdrawers.errors import (
    BadCount, BadPlan, Busy, LastCollection, NoCollection, NoDrawer, NoKind, NothingToUndo, TooFew, TooFull,
    TooManyCollections, TooManyEdits, TooMuch)
from darkdrawers.texts import cabinet_text, number_in, numbers_in
from darkdrawers.wishes import is_collection

# How many words follow the first word of each command.
WORDS_BEHIND = {"put": 3, "remove": 3, "wish": 1, "drop": 1, "undo": 0, "cabinet": 0, "sure": 0, "plan": 1}


class Shell:
    """Answers lines of text with what they tell the cabinet to do."""

    def __init__(self, cabinet):
        self.cabinet = cabinet

    def execute(self, line):
        """The answer to the line; an error of the cabinet is answered with the name of its class."""
        command = command_in(line, len(self.cabinet.stock[0]))
        if command is None:
            return "unknown command"
        try:
            return self.answer(command)
        except Busy:
            return "error Busy"
        except TooManyEdits:
            return "error TooManyEdits"
        except NoDrawer:
            return "error NoDrawer"
        except NoKind:
            return "error NoKind"
        except BadCount:
            return "error BadCount"
        except TooMuch:
            return "error TooMuch"
        except TooFew:
            return "error TooFew"
        except TooManyCollections:
            return "error TooManyCollections"
        except NoCollection:
            return "error NoCollection"
        except LastCollection:
            return "error LastCollection"
        except NothingToUndo:
            return "error NothingToUndo"
        except BadPlan:
            return "error BadPlan"
        except TooFull:
            return "error TooFull"

    def answer(self, command):
        """The answer to a command, a tuple of its name and its values."""
        name = command[0]
        if name == "cabinet":
            return cabinet_text(self.cabinet.stock, self.cabinet.collections)
        if name == "sure":
            return "none" if self.cabinet.sure is None else str(self.cabinet.sure)
        if name == "plan":
            return self.cabinet.certificate(command[1])[0]
        if name == "undo":
            return f"ok {self.cabinet.undo()}"
        return f"ok {self.cabinet.do_edit(command)}"


def command_in(line, kinds):
    """The command in the line as a tuple of its name and its values, or None."""
    if not isinstance(line, str):
        return None
    name, *words = line.split(" ")
    if len(words) != WORDS_BEHIND.get(name):
        return None
    # A plan and a collection have several numbers in one word.
    if name == "wish" or name == "plan":
        values = [numbers_in(word) for word in words]
    else:
        values = [number_in(word) for word in words]
    if None in values or name == "wish" and not is_collection(kinds, values[0]):
        return None
    return (name, *values)
