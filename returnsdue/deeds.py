"""Deeds: lines that tell what a session is to do."""

from returnsdue.leading import LEADERS
from returnsdue.reading import DIGITS

MOST_FIGURES = 9
OF_NOTHING = ("next show", "last show", "next stop", "last stop")
OF_NUMBERS = ("fore", "back", "to", "next return", "last return")
OF_PATHS = ("stop", "unstop")


def is_number_told(word):
    """Whether a word tells a whole from 0 to 10 ** 9 - 1 without zeros ahead of it."""
    if not 1 <= len(word) <= MOST_FIGURES or (word[0] == "0" and word != "0"):
        return False
    for figure in word:
        if figure not in DIGITS:
            return False
    return True


def is_path_told(word):
    """Whether a word tells a path."""
    if word == ".":
        return True
    for index in word.split("."):
        if not is_number_told(index):
            return False
    return True


def path_told(path):
    """The word that tells a path."""
    return ".".join([str(index) for index in path]) if path else "."


def is_line_of_deed(line):
    """Whether a string is a deed."""
    if line in OF_NOTHING:
        return True
    name, _, word = line.rpartition(" ")
    if name in OF_NUMBERS:
        return is_number_told(word)
    if name in OF_PATHS:
        return is_path_told(word)
    return name == "lead" and word in LEADERS


def deed_read(deed):
    """The pair of the name of a deed and what it is done with, None without anything."""
    if deed in OF_NOTHING:
        return (deed, None)
    name, _, word = deed.rpartition(" ")
    if name in OF_NUMBERS:
        return (name, int(word))
    if name in OF_PATHS:
        return (name, () if word == "." else tuple([int(index) for index in word.split(".")]))
    return (name, word)


def do_deed(session, deed):
    """What the session's method of a deed returns, or raises."""
    name, given = deed_read(deed)
    if name == "fore":
        return session.fore(given)
    if name == "back":
        return session.back(given)
    if name == "to":
        return session.to(given)
    if name == "next return":
        return session.next_return(given)
    if name == "last return":
        return session.last_return(given)
    if name == "next show":
        return session.next_show()
    if name == "last show":
        return session.last_show()
    if name == "stop":
        return session.stop(given)
    if name == "unstop":
        return session.unstop(given)
    if name == "next stop":
        return session.next_stop()
    if name == "last stop":
        return session.last_stop()
    return session.lead(given)


def answer_told(found):
    """The answer that tells what a method has returned."""
    if found is None:
        return "none"
    if found is True:
        return "yes"
    if found is False:
        return "no"
    return str(found)
