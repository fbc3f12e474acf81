"""Part 2: the parts of texts, and the reader that makes a script of them."""

from eyesonly.errors import BadText
from eyesonly.terms import KINDS, NAME_SIGNS, PLAIN_SHAPES, is_name
from eyesonly.trees import is_tag

BLANKS = " \n"

# The words that have their terms in brackets behind them, and what stands in these brackets.
BRACKETED = ("left", "right", "up", "empty", "has", "same", "either")
WITHOUT_TERMS = ("top", "yes", "no")
OPERATORS = ("not", "and", "or")


def split_parts(text):
    """The list of the parts of a string."""
    parts = []
    run = ""
    for sign in text + " ":
        if sign in NAME_SIGNS:
            run += sign
            continue
        if run:
            parts.append(run)
            run = ""
        if sign not in BLANKS:
            parts.append(sign)
    return parts


class Reader:
    """Reads the parts of a text from left to right.

    A term that is begun and not yet finished is a list in begun, the innermost one last: its word, and what was read
    of it. A bracket is one, too. There is no recursion, since terms may be nested deeply in a text that goes wrong.
    """

    def __init__(self, parts):
        self.parts = parts
        self.at = 0
        self.begun = []

    def coming(self):
        """The next part, or "" at the end."""
        return self.parts[self.at] if self.at < len(self.parts) else ""

    def comes(self, part):
        """Whether this part is the next one; then go on behind it."""
        if self.coming() != part:
            return False
        self.at += 1
        return True

    def take(self, part):
        """Go on behind the next part, which must be this one."""
        if not self.comes(part):
            raise BadText(self.at)

    def take_checked(self, fits):
        """Go on behind the next part, which must be one that fits, and return it."""
        part = self.coming()
        if not fits(part):
            raise BadText(self.at)
        self.at += 1
        return part

    def read_script(self):
        """The script of all parts."""
        functions = []
        while self.at < len(self.parts):
            functions.append(self.read_function())
        return tuple(functions)

    def read_function(self):
        """The function that begins here."""
        self.take("fun")
        name = self.take_checked(is_name)
        self.take("(")
        names = self.read_names()
        self.take(":")
        kind = self.take_checked(is_kind)
        self.take("=")
        return ("fun", name, kind, names, self.read_term())

    def read_names(self):
        """The names in the brackets of a function, and go on behind these."""
        if self.comes(")"):
            return ()
        names = [self.take_checked(is_name)]
        while not self.comes(")"):
            self.take(",")
            names.append(self.take_checked(is_name))
        return tuple(names)

    def read_term(self):
        """The term that begins here, as far as it can go on."""
        while True:
            term = self.read_beginning()
            if term is not None:
                term = self.put(term)
            if term is not None:
                return term

    def read_beginning(self):
        """Read the beginning of a term; the term if this is all of it, otherwise None."""
        part = self.coming()
        if is_name(part):
            return self.read_name_or_call()
        if part in WITHOUT_TERMS:
            self.at += 1
            return (part,)
        if part in BRACKETED:
            self.at += 1
            self.take("(")
        elif part in ("(", "not") or part == "if" and self.may_be_if():
            self.at += 1
        else:
            raise BadText(self.at)
        self.begun.append([part])
        return None

    def read_name_or_call(self):
        """Read a name, or the beginning of a call: the term if this is all of it, otherwise None."""
        name = self.take_checked(is_name)
        if not self.comes("("):
            return ("name", name)
        if self.comes(")"):
            return ("call", name, ())
        self.begun.append(["call", name])
        return None

    def may_be_if(self):
        """Whether an if may stand here without brackets."""
        if not self.begun:
            return True
        word = self.begun[-1][0]
        before_else = word == "if" and len(self.begun[-1]) < 3
        return word not in OPERATORS and not before_else

    def put(self, term):
        """Put a term where it belongs; the outermost term if it is finished, None if another one must follow."""
        while term is not None:
            word = self.begun[-1][0] if self.begun else ""
            if word in ("not", "and"):
                term = (*self.begun.pop(), term)
            elif self.comes("and"):
                self.begun.append(["and", term])
                return None
            elif word == "or":
                term = (*self.begun.pop(), term)
            elif self.comes("or"):
                self.begun.append(["or", term])
                return None
            elif not self.begun:
                return term
            else:
                term = self.put_inside(term)
        return None

    def put_inside(self, term):
        """Put a term into the one around it, which is no operator; that one if this finishes it, otherwise None."""
        around = self.begun[-1]
        word = around[0]
        if word == "(":
            self.take(")")
            self.begun.pop()
            return term
        around.append(term)
        if word == "if":
            return self.go_on_in_if()
        if word == "call":
            return self.go_on_in_call()
        if word == "has":
            self.take(",")
            around.append(self.take_checked(is_tag))
        elif len(around) <= PLAIN_SHAPES[word]:
            self.take(",")
            return None
        self.take(")")
        return tuple(self.begun.pop())

    def go_on_in_if(self):
        """Go on in an if behind a term in it: the if, when that was its last term, otherwise None."""
        many = len(self.begun[-1]) - 1
        if many == 3:
            return tuple(self.begun.pop())
        self.take("then" if many == 1 else "else")
        return None

    def go_on_in_call(self):
        """Go on in a call behind a term in it: the call, if its bracket is closed, otherwise None."""
        if self.comes(","):
            return None
        self.take(")")
        _, name, *terms = self.begun.pop()
        return ("call", name, tuple(terms))


def is_kind(part):
    """Whether a part is one of the kinds."""
    return part in KINDS
