"""Commands for a house and questions about a table, and their texts."""

from neverregret.basics import are_numbers_below, is_number_below
from neverregret.errors import InvalidText
from neverregret.houses import MOST_GUESTS
from neverregret.printer import show_bounds, show_row
from neverregret.reader import read_bounds, read_row
from neverregret.striking import is_way_to_strike
from neverregret.tables import bounds_fault, kind_names, row_fault, type_names
from neverregret.textsteps import numeral_worth

TYPE_WORDS = ("come", "moving", "choice")
TEXT_WORDS = ("bounds", "most")


def is_command(table, value):
    """Return whether any value is a command."""
    if not isinstance(value, tuple) or not value or not isinstance(value[0], str):
        return False
    if value[0] == "court":
        return len(value) == 1
    if value[0] == "safe":
        return len(value) == 3 and are_numbers_below(value[1:], len(table.kinds))
    return len(value) == 2 and can_be_told(table, value[0], value[1])


def can_be_told(table, word, value):
    """Return whether any value can stand behind the word of a command that has one value."""
    if word in TYPE_WORDS:
        return is_number_below(value, len(table.types))
    if word == "leave":
        return is_number_below(value, MOST_GUESTS)
    if word == "bounds":
        return bounds_fault(table, value) is None
    if word == "most":
        return row_fault(table, value) is None
    return word == "repair" and is_way_to_strike(value)


def read_commands(table, text):
    """Return the commands of a text."""
    if not isinstance(text, str):
        raise InvalidText(-1, -1)
    commands = []
    for number, line in enumerate(text.split("\n")):
        words = line.strip(" ")
        if words:
            word, _, rest = words.partition(" ")
            told = told_by(table, word, rest)
            if told is None:
                raise InvalidText(number, 0)
            commands.append((word,) + told)
    return tuple(commands)


def told_by(table, word, rest):
    """Return the tuple of what stands behind the word of a command, `None` if that makes no command."""
    if word in TEXT_WORDS:
        return told_by_text(table, word, rest)
    words = [part for part in rest.split(" ") if part]
    if word == "court":
        return None if words else ()
    if word == "safe":
        return numbers_of(words, kind_names(table), 2)
    if word in TYPE_WORDS:
        return numbers_of(words, type_names(table), 1)
    if len(words) != 1:
        return None
    if word == "leave":
        number = numeral_worth(words[0], MOST_GUESTS - 1)
        return None if number == -1 else (number,)
    return (words[0],) if word == "repair" and is_way_to_strike(words[0]) else None


def told_by_text(table, word, text):
    """Return the tuple of the bounds or the row of a text, or `None`."""
    try:
        return (read_bounds(table, text),) if word == "bounds" else (read_row(table, text),)
    except InvalidText:
        return None


def numbers_of(words, names, many):
    """Return the numbers of so many names, `None` if the words are other ones."""
    if len(words) != many or any([word not in names for word in words]):
        return None
    return tuple([names.index(word) for word in words])


def show_command(table, command):
    """Return the line of a command."""
    return " ".join([word for word in [command[0]] + words_behind(table, command) if word])


def words_behind(table, command):
    """Return the list of the texts that stand behind the word of a command."""
    word = command[0]
    if word in TYPE_WORDS:
        return [type_names(table)[command[1]]]
    if word == "bounds":
        return [show_bounds(table, command[1])]
    if word == "most":
        return [show_row(table, command[1])]
    if word == "safe":
        return [kind_names(table)[kind] for kind in command[1:]]
    return [str(value) for value in command[1:]]


def show_commands(table, commands):
    """Return the lines of a tuple of commands."""
    return "\n".join([show_command(table, command) for command in commands])
