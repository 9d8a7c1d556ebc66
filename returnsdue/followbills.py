"""Bills of translations, made of the bills of the programs that are translated."""

from returnsdue.counts import no_counts
from returnsdue.demandtable import Demands
from returnsdue.demands import is_good_end, is_returns, is_uses
from returnsdue.errors import BadReturns, BadTold, BadUses
from returnsdue.fitting import fitted_bill
from returnsdue.starring import Stars, bill_starred
from returnsdue.stepper import FIRST_FRAMES
from returnsdue.trees import all_trees, lines_of

WITH_SECOND = ("call", "work", "pair")


def check_told(told):
    """Refuse what is no good end."""
    if not is_good_end(told):
        raise BadTold("this is no good end")


def uses_following(uses, told):
    """The translation of uses under a good end."""
    if not is_uses(uses):
        raise BadUses("these are no uses")
    check_told(told)
    table = Demands()
    numbers = table.read(uses)
    return Stars(table, told).starred_uses(numbers)


def calls_following(returns, told):
    """The calls of the follower of an expression that is used for these returns."""
    if not is_returns(returns):
        raise BadReturns("these are no returns")
    check_told(told)
    table = Demands()
    numbers = table.read_returns(returns)
    return Stars(table, told).calls(numbers)


def steps_following(program, bill):
    """The counts of the run of a program's translation, told by the bill alone."""
    tree = fitted_bill(Demands(), program, bill)
    counts = lines_of(tree)
    parts = all_trees(tree)
    firsts = len([part for part in parts if part.word in FIRST_FRAMES])
    seconds = sum([len(part.last()) for part in parts if part.word in WITH_SECOND])
    pairs = sum([part.many for part in parts if part.word == "pair"])
    return counts_following(counts, firsts + seconds, pairs)


def counts_following(lines, followers_made, pairs):
    """The counts of a translation's run, by the lines of the bill and by what else the run makes."""
    told = no_counts()
    for kind in ("def", "choose", "open", "show", "work"):
        told[kind] = lines[kind]
    twice_called = 2 * lines["call"] + 3 * lines["enter"]
    given = lines["look"] + lines["hold"] + lines["keep"] + lines["show"] + lines["work"]
    told["call"] = given + twice_called + followers_made + 1
    names = 2 * lines["look"] + lines["hold"] + 2 * pairs + lines["open"] + lines["choose"]
    worths = 2 * lines["show"] + 3 * lines["call"] + 5 * lines["enter"] + 3 * lines["work"]
    told["look"] = names + worths + 1
    told["hold"] = lines["hold"] + 2 * lines["keep"] + lines["call"] + lines["enter"] + 2 * followers_made + 2
    return told


def bill_following(program, bill):
    """The bill of a program's translation."""
    table = Demands()
    tree = fitted_bill(table, program, bill)
    return bill_starred(table, bill[0], tree)


def followers(program, bill):
    """The paths of the parts that get a follower of their own, and how often each of their bills returns."""
    tree = fitted_bill(Demands(), program, bill)
    found = []
    for part in all_trees(tree):
        if part.word in FIRST_FRAMES:
            inner = part.trees if part.word in WITH_SECOND else part.trees[:1]
            found.extend([(one.node.path, one.many) for one in inner])
    return sorted(found)


def is_single(program, bill):
    """Whether no bill that stands in the bill returns more than once."""
    tree = fitted_bill(Demands(), program, bill)
    for part in all_trees(tree):
        if part.many > 1:
            return False
    return True
