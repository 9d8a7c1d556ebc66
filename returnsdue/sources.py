"""Programs with plain names, and the programs whose codes are given."""

from returnsdue.codes import is_code
from returnsdue.compiler import compiled
from returnsdue.errors import BadCode
from returnsdue.plainnames import plainly_named
from returnsdue.terms import check_program, is_program
from returnsdue.unlayer import read_back


def plain_names(program):
    """The program in which the names a, b, .. are bound in the order of the nodes."""
    check_program(program)
    return plainly_named(program)


def source_of(code):
    """The program with plain names whose code this is, None if there is none."""
    if not is_code(code):
        raise BadCode("this is no code")
    found = read_back(code)
    if not is_program(found) or compiled(found) != code:
        return None
    return plainly_named(found)
