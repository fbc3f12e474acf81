"""Part 5: certificates for outcomes and for the end of runs."""

from eyesonly.entries import Setting
from eyesonly.errors import BadValue
from eyesonly.kinds import check_program, check_without_choice
from eyesonly.meaning import check_call
from eyesonly.proofs import proof_of
from eyesonly.tables import Table


def check_outcome(program, tree, call, value):
    """The setting of arguments that accept any values, after all checks for errors."""
    check_program(program)
    check_call(program, tree, call)
    setting = Setting(program, tree)
    if not setting.is_value(call, value):
        raise BadValue(value)
    return setting


def check_end(program, tree, call):
    """Raise the error for arguments that accept any values."""
    check_program(program)
    check_without_choice(program)
    check_call(program, tree, call)


def judge_outcome(program, tree, call, value):
    """A certificate that a value is in the lot of a call, or that it is not."""
    check_outcome(program, tree, call, value)
    table = Table(program, tree, call)
    if value in table.lots[call]:
        return ("table", proof_of(table, call, value))
    return ("closed", tuple([(other, table.lots[other]) for other in table.calls]))


def is_paper(thing, word, many):
    """Whether any value is a tuple of this length that begins with this string."""
    return isinstance(thing, tuple) and len(thing) == many and thing[0] == word


def outcome_holds(program, tree, call, value, thing):
    """Whether any value is a certificate that a value is in the lot of a call, or that it is not."""
    setting = check_outcome(program, tree, call, value)
    if is_paper(thing, "table", 2):
        return table_holds(setting, call, value, thing[1])
    if is_paper(thing, "closed", 2):
        return closed_holds(setting, call, value, thing[1])
    return False


def table_holds(setting, call, value, thing):
    """Whether any value is a tuple of entries that show that a value is in the lot of a call."""
    if not setting.are_triples(thing) or not setting.follow(thing):
        return False
    return (call, value) in [(other, known) for other, known, _ in thing]


def closed_holds(setting, call, value, thing):
    """Whether any value is a tuple of entries that show that a value is not in the lot of a call."""
    if not setting.are_lots(thing) or not setting.are_closed(thing):
        return False
    return [value in lot for other, lot in thing if other == call] == [False]


def judge_end(program, tree, call):
    """A certificate that a call of a program without choice has an outcome, or that its run is endless."""
    check_end(program, tree, call)
    table = Table(program, tree, call)
    if table.lots[call]:
        value = table.lots[call][0]
        return ("given", value, proof_of(table, call, value))
    entries = [(other, value, rank) for rank, (other, value) in enumerate(table.grown)]
    ring = {}
    other = call
    while other not in ring:
        ring[other] = True
        other = table.sight.stuck_at(other)
    return ("endless", tuple(entries), tuple(ring))


def end_holds(program, tree, call, thing):
    """Whether any value is a certificate for the end of a call, or for its having none."""
    check_end(program, tree, call)
    setting = Setting(program, tree)
    if is_paper(thing, "given", 3):
        return given_holds(setting, call, thing[1], thing[2])
    if is_paper(thing, "endless", 3):
        return endless_holds(setting, call, thing[1], thing[2])
    return False


def are_single(triples):
    """Whether no two of these triples have the same call."""
    return len(set([call for call, _, _ in triples])) == len(triples)


def given_holds(setting, call, value, thing):
    """Whether any values are an outcome and a tuple of entries that show it."""
    return setting.is_value(call, value) and table_holds(setting, call, value, thing) and are_single(thing)


def endless_holds(setting, call, thing, calls):
    """Whether any values are a tuple of entries and a tuple of calls that wait for one another."""
    if not setting.are_triples(thing) or not are_single(thing) or not setting.follow(thing):
        return False
    if not isinstance(calls, tuple) or not all(setting.is_call(other) for other in calls):
        return False
    if not calls or calls[0] != call or len(set(calls)) < len(calls):
        return False
    return setting.are_stuck(calls, thing)
