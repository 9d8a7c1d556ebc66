"""Passes that shorten programs, in whatever order, to one last form, and the bills of what comes."""

from returnsdue.counts import KINDS, counted
from returnsdue.demandtable import Demands
from returnsdue.errors import BadPass, BadPasses
from returnsdue.fitting import fitted_bill
from returnsdue.ledger import ledger_of
from returnsdue.plainnames import plainly_named
from returnsdue.shortening import after_first_pass, after_pass, passes_in
from returnsdue.terms import check_program, is_leading, is_program
from returnsdue.trees import lines_of


def passes(program):
    """The ascending list of the passes that can be done."""
    check_program(program)
    return passes_in(plainly_named(program))


def passed_once(plain, word, path):
    """What comes of a pass, with plain names; None if it cannot be done, for any word and path."""
    if not isinstance(word, str) or not is_leading(plain, path):
        return None
    made = after_pass(plain, word, path)
    return None if made is None else plainly_named(made)


def passed(program, word, path):
    """The program that comes of a pass."""
    check_program(program)
    return passed_right(program, word, path)


def passed_right(program, word, path):
    """As passed, of what is known to be a program."""
    made = passed_once(plainly_named(program), word, path)
    if made is None:
        raise BadPass("this is no pass that can be done")
    return made


def bill_of(ledger):
    """The bill that a ledger has come to."""
    return (ledger.runner.ended, ledger.trees[0].value)


def lines_more(tree, ledger):
    """How many lines of each kind a tree has more than the bill of a ledger, whose lines are its steps."""
    old = lines_of(tree)
    new = counted(ledger.runner.kinds)
    return {kind: old[kind] - new[kind] for kind in KINDS}


def gain(program, bill, word, path):
    """How many lines of each kind a bill has more than that of what comes of a pass."""
    tree = fitted_bill(Demands(), program, bill)
    return lines_more(tree, ledger_of(passed_right(program, word, path)))


def bill_passed(program, bill, word, path):
    """The bill of what comes of a pass, however many lines it has."""
    fitted_bill(Demands(), program, bill)
    return bill_of(ledger_of(passed_right(program, word, path)))


def done(program, row):
    """What comes of passes that are done one behind the other."""
    check_program(program)
    if not isinstance(row, (list, tuple)):
        raise BadPasses("this is no list")
    made = plainly_named(program)
    for item in row:
        if not isinstance(item, tuple) or len(item) != 2:
            raise BadPasses("something in the list is no pass")
        word, path = item
        made = passed_once(made, word, path)
        if made is None:
            raise BadPasses("a pass in the list cannot be done")
    return made


def last_form(program):
    """What comes of passes done until none can be done."""
    check_program(program)
    return last_form_of(program)


def last_form_of(program):
    """As last_form, of what is known to be a program."""
    made = plainly_named(program)
    following = after_first_pass(made)
    while following is not None:
        made = following
        following = after_first_pass(made)
    return plainly_named(made)


def are_last(program, value):
    """Whether any value is the last form of a program."""
    check_program(program)
    return is_program(value) and value == last_form_of(program)


def shortened(program, bill):
    """The last form of a program, its bill, and how many lines of each kind that has less."""
    tree = fitted_bill(Demands(), program, bill)
    form = last_form_of(program)
    ledger = ledger_of(form)
    return (form, bill_of(ledger), lines_more(tree, ledger))
