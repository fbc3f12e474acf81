"""Pieces of the texts of programs that are made here."""


def any_of(texts):
    """The text of a truth that holds if one of these does; it is not nested more deeply than need be."""
    if not texts:
        return "no"
    if len(texts) == 1:
        return texts[0]
    half = len(texts) // 2
    return f"({any_of(texts[:half])}) or ({any_of(texts[half:])})"


def all_same(texts, place):
    """The text of whether all these places, at least one, are the same as another one."""
    return " and ".join([f"same({text}, {place})" for text in texts])


def call_text(name, texts):
    """The text of a call with these terms."""
    return name + "(" + ", ".join(texts) + ")"


def function_text(name, names, kind, body):
    """The line of a function."""
    return "fun " + call_text(name, names) + ": " + kind + " = " + body
