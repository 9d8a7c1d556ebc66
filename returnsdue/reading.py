"""Texts read sign by sign, so that behind each sign it is known what can still be told.

A number can be told wherever an expression is wanted, and some name wherever one is to be bound.
So nothing but a word that is half told, the most nodes and the most levels can bar the way on.
"""

from returnsdue.shapes import BINDERS, LENGTHS, PARTS, names_told
from returnsdue.terms import LETTERS, MOST_LETTERS, MOST_NODES, MOST_ROW, is_name
from returnsdue.wholes import WORKS

BLANKS = " \n"
DIGITS = "0123456789"
SIGNS = "\n ()-0123456789abcdefghijklmnopqrstuvwxyz"
MOST_DIGITS = 30
HEADS = (
    "call", "choose", "def", "fun", "keep", "less", "let", "minus", "open", "pair", "plus", "same", "show", "times",
)


def items_begun(head):
    """The first items of an expression, those that its head tells."""
    return ["work", head] if head in WORKS else [head]


def many_items(head):
    """How many names and parts stand behind this head."""
    items = items_begun(head)
    return LENGTHS[items[0]] - len(items)


def many_parts(head):
    """How many parts an expression with this head has."""
    return len(PARTS["work" if head in WORKS else head])


def wanted_behind_items(items):
    """What an expression that has these items wants next: "name", "part" or "close"."""
    if len(items) == LENGTHS[items[0]]:
        return "close"
    return "name" if len(items) in BINDERS[items[0]] else "part"


def is_number_begun(word):
    """Whether a word is as much as some number begins with."""
    digits = word[1:] if word.startswith("-") else word
    if len(digits) > MOST_DIGITS or (digits.startswith("0") and word != "0"):
        return False
    for digit in digits:
        if digit not in DIGITS:
            return False
    return True


class Reader:
    """A text as far as it was read.

    brackets has for each bracket that is not closed the items of its expression, [] ahead of its
    head. word is the one that is being told, "" between words. whole is the expression that was
    read, None ahead of its end. nodes are those that it has at least: those begun, and one for
    each part that is still wanted.
    """

    def __init__(self, names):
        self.names = list(names)
        self.brackets = []
        self.word = ""
        self.whole = None
        self.nodes = 1

    def wanted(self):
        """What is being told, or is wanted next: "head", "name", "part", "close" or "nothing"."""
        if self.brackets:
            return wanted_behind_items(self.brackets[-1]) if self.brackets[-1] else "head"
        return "part" if self.whole is None else "nothing"

    def wanted_behind(self):
        """What is wanted behind the word that is being told, if there is one."""
        if not self.word:
            return self.wanted()
        if not self.brackets:
            return "nothing"
        items = self.brackets[-1]
        return wanted_behind_items([*items, self.word] if items else items_begun(self.word))

    def scope(self):
        """The names that may stand where an expression is wanted."""
        found = list(self.names)
        for items in self.brackets:
            found.extend(names_told(items, len(items)))
        return found

    def bound_so_far(self):
        """The names that the expression whose bracket was opened last binds so far."""
        return [item for item in self.brackets[-1][1:] if isinstance(item, str)]

    def heads(self):
        """The heads that begin with the word being told, and whose parts are not too many."""
        return [head for head in HEADS if head.startswith(self.word) and self.has_room(many_parts(head))]

    def has_room(self, more):
        """Whether the expression can have so many nodes more."""
        return self.nodes + more <= MOST_NODES

    def is_word_begun(self, word):
        """Whether some word that may stand here begins with this one."""
        wanted = self.wanted()
        if wanted == "head":
            return bool([head for head in self.heads() if head.startswith(word)])
        if wanted == "name":
            return self.is_binding_begun(word)
        if wanted != "part":
            return False
        if word[0] in LETTERS:
            return bool([name for name in self.scope() if name.startswith(word)])
        return is_number_begun(word)

    def is_binding_begun(self, word):
        """Whether some name that may be bound here begins with this word."""
        if word[-1] not in LETTERS or len(word) > MOST_LETTERS:
            return False
        return len(word) < MOST_LETTERS or word not in self.bound_so_far()

    def is_word_right(self):
        """Whether no word is being told, or it may end here."""
        if not self.word:
            return True
        wanted = self.wanted()
        if wanted == "head":
            return self.word in HEADS
        if wanted == "name":
            return is_name(self.word) and self.word not in self.bound_so_far()
        return self.word[-1] in DIGITS or self.word in self.scope()

    def is_right(self):
        """Whether what was read is a right text."""
        return self.is_word_right() and self.wanted_behind() == "nothing"

    def takes(self, sign):
        """Whether what was read is a beginning with this sign behind it, too."""
        if sign in BLANKS:
            return self.is_word_right()
        if sign == ")":
            return self.is_word_right() and self.wanted_behind() == "close"
        if sign == "(":
            return self.is_word_right() and self.wanted_behind() == "part" and self.can_open()
        return self.is_word_begun(self.word + sign)

    def can_open(self):
        """Whether there are levels and nodes for one more bracket behind the word being told."""
        parts = many_parts(self.word) if self.wanted() == "head" else 0
        return len(self.brackets) + 2 <= MOST_ROW and self.has_room(parts + 1)

    def take(self, sign):
        """Read one more sign, which the reader takes."""
        if sign not in BLANKS and sign not in "()":
            self.word += sign
            return
        self.end_word()
        if sign == "(":
            self.brackets.append([])
        elif sign == ")":
            self.add_part(tuple(self.brackets.pop()))

    def end_word(self):
        """Enter the word that was told, if there is one."""
        word = self.word
        wanted = self.wanted()
        self.word = ""
        if not word:
            return
        if wanted == "head":
            self.brackets[-1].extend(items_begun(word))
            self.nodes += many_parts(word)
        elif wanted == "name":
            self.brackets[-1].append(word)
        else:
            self.add_part(("name", word) if word[0] in LETTERS else ("number", int(word)))

    def add_part(self, part):
        """Enter an expression that was told."""
        if self.brackets:
            self.brackets[-1].append(part)
        else:
            self.whole = part
