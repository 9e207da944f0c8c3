"""Tales: what a new shell tells to many lines, and texts of lines (11.2)."""

from foldervotes.errors import BadText, NoLines
from foldervotes.lines import is_lines, told_to_lines
from foldervotes.shell import Shell, shell_words


def tale(blocks, lines):
    """What a new shell tells to lines, one behind the other."""
    shell = Shell(blocks)
    if not is_lines(lines):
        raise NoLines()
    return told_to_lines(shell, lines)


def tale_text(lines):
    """The text of lines, each closed by a line feed."""
    if not is_lines(lines):
        raise NoLines()
    return "".join([line + "\n" for line in lines])


def read_tale(text):
    """The list of the lines of a text; all of them have a form of the shell's."""
    if not isinstance(text, str):
        raise NoLines()
    *lines, rest = text.split("\n")
    for number, line in enumerate(lines, start=1):
        if shell_words(line) is None:
            raise BadText(number)
    if rest != "":
        raise BadText(len(lines) + 1)
    return lines
