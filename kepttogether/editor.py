"""An editor of named sets of named elements, which keeps a journal of its commands."""

from kepttogether.checks import demand
from kepttogether.commands import MOST_COMMANDS, are_names, is_command, reason_against, sets_behind
from kepttogether.errors import NotPossible, TooLarge
from kepttogether.naming import accepts_named, named_answer, system_of


class Editor:
    """Elements with names, and sets of them, which commands put together and change."""

    def __init__(self, names):
        demand(are_names(names), "names")
        self._names = names
        self._commands = []
        # The sets ahead of the first command, and behind each one: so commands are undone without carrying out others.
        self._states = [()]

    def act(self, command):
        """Carry out the command, and return the number of commands in the journal."""
        demand(is_command(command, self._names), "command")
        why = reason_against(self._states[-1], self._names, command)
        if why is not None:
            raise NotPossible(why)
        if len(self._commands) == MOST_COMMANDS:
            raise TooLarge("commands")
        self._states.append(sets_behind(self._states[-1], self._names, command))
        self._commands.append(command)
        return len(self._commands)

    def undo(self):
        """Undo the last command and return it, or return None if the journal is empty."""
        if not self._commands:
            return None
        self._states.pop()
        return self._commands.pop()

    def names(self):
        """Return the tuple of the names of the elements."""
        return self._names

    def sets(self):
        """Return the tuple of the sets, each with its name and the names of its elements."""
        return tuple((name, tuple(self._names[place] for place in chosen)) for name, chosen in self._states[-1])

    def system(self):
        """Return the system."""
        return system_of(self._states[-1], self._names)

    def answer(self):
        """Return the answer about the system, with names."""
        return named_answer(self._states[-1], self._names)

    def accepts(self, answer):
        """Tell whether the answer, with names, is accepted."""
        return accepts_named(self._states[-1], self._names, answer)

    def journal(self):
        """Return the tuple of the commands in the journal."""
        return tuple(self._commands)

    def records(self):
        """Return the tuple of the commands in the journal, each with the answer behind it."""
        states = self._states[1:]
        return tuple((command, named_answer(sets, self._names)) for command, sets in zip(self._commands, states))
