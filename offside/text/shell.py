"""A shell: commands as strings, each with an answer."""

from offside.base.checks import check_book
from offside.base.texts import Text
from offside.errors import (Broken, Impossible, InvalidBook, InvalidNumber, InvalidOperation, InvalidRow, InvalidText,
                            NoColumns, ParseError, TooMany, UnknownWord)
from offside.text.commands import command_done


def check_command(command):
    """Raises InvalidOperation unless the value is a string."""
    if not isinstance(command, str):
        raise InvalidOperation("a command is a string")


class Shell:
    """A book, a text and a wanted row, or None, which commands tell and change."""

    def __init__(self, book):
        check_book(book)
        self._book = book
        self._text = Text()
        self._wanted = None
        self._answers = []

    @property
    def book(self):
        """The book."""
        return self._book

    @property
    def text(self):
        """The text."""
        return self._text

    @property
    def wanted(self):
        """The wanted row, or None."""
        return self._wanted

    @property
    def answers(self):
        """The pairs of a command and its answer."""
        return tuple(self._answers)

    def run(self, command):
        """The answer of a command."""
        check_command(command)
        answer = self._answer(command)
        self._answers.append((command, answer))
        return answer

    def run_all(self, *commands):
        """The answers of some commands, one behind the other."""
        for command in commands:
            check_command(command)
        return tuple([self.run(command) for command in commands])

    def _do(self, command):
        """Does a command; if it raises an error, nothing changes."""
        told = command_done(self._book, self._text, self._wanted, command)
        self._book, self._text, self._wanted, answer = told
        return answer

    def _answer(self, command):
        """Does a command and answers; the answer of an error is the name of its class."""
        try:
            return self._do(command)
        except ParseError:
            return "error ParseError"
        except InvalidBook:
            return "error InvalidBook"
        except InvalidText:
            return "error InvalidText"
        except InvalidRow:
            return "error InvalidRow"
        except InvalidOperation:
            return "error InvalidOperation"
        except InvalidNumber:
            return "error InvalidNumber"
        except UnknownWord:
            return "error UnknownWord"
        except TooMany:
            return "error TooMany"
        except Broken:
            return "error Broken"
        except Impossible:
            return "error Impossible"
        except NoColumns:
            return "error NoColumns"
