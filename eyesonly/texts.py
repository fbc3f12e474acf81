"""Part 2: the texts of scripts."""

from eyesonly.errors import BadScript, BadText
from eyesonly.reading import Reader, split_parts
from eyesonly.terms import is_script, parts_of


def bracketed(term, words):
    """The pieces of a term, in brackets if its word is one of these."""
    return ["(", term, ")"] if term[0] in words else [term]


def listed(terms):
    """The pieces of terms with commas between them."""
    pieces = []
    for term in terms:
        if pieces:
            pieces.append(", ")
        pieces.append(term)
    return pieces


def pieces_of(term):
    """The text of a term, in pieces: strings, and terms in the places of their texts."""
    word = term[0]
    if word == "name":
        return [term[1]]
    if word == "not":
        return ["not ", *bracketed(term[1], ("and", "or", "if"))]
    if word == "and":
        return [*bracketed(term[1], ("or", "if")), " and ", *bracketed(term[2], ("and", "or", "if"))]
    if word == "or":
        return [*bracketed(term[1], ("if",)), " or ", *bracketed(term[2], ("or", "if"))]
    if word == "if":
        test = bracketed(term[1], ("if",))
        return ["if ", *test, " then ", *bracketed(term[2], ("if",)), " else ", term[3]]
    if word == "call":
        return [term[1], "(", *listed(term[2]), ")"]
    if word == "has":
        return ["has(", term[1], ", ", term[2], ")"]
    terms = parts_of(term)
    return [word, "(", *listed(terms), ")"] if terms else [word]


def term_text(term):
    """The text of a term."""
    texts = []
    waiting = [term]
    while waiting:
        piece = waiting.pop()
        if isinstance(piece, str):
            texts.append(piece)
        else:
            waiting.extend(pieces_of(piece)[::-1])
    return "".join(texts)


def line_of(function):
    """The line of a function."""
    _, name, kind, names, body = function
    return "fun " + name + "(" + ", ".join(names) + "): " + kind + " = " + term_text(body)


def written(script):
    """The text of a script."""
    if not is_script(script):
        raise BadScript(script)
    return "\n".join([line_of(function) for function in script])


def read(text):
    """The script of a text."""
    if not isinstance(text, str):
        raise BadText(-1)
    return Reader(split_parts(text)).read_script()
