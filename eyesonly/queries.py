"""Part 12: questions to trees: which places a function finds."""

from eyesonly.errors import BadName
from eyesonly.kinds import check_program
from eyesonly.lots import rows_of
from eyesonly.tables import Table
from eyesonly.trees import check_tree, standing


def rows_found(program, tree, name, many):
    """The ascending list of the tuples of so many places with which a call has True in its lot."""
    check_program(program)
    check_tree(tree)
    asked = [function[1] for function in program if function[2] == "truth" and len(function[3]) == many]
    if name not in asked:
        raise BadName(name)
    rows = rows_of([list(standing(tree))] * many)
    # All calls share one table, so that none is looked at again for each that demands it.
    table = Table(program, tree, (name, rows[0]))
    return [row for row in rows if True in table.lot_of((name, row))]


def found(program, tree, name):
    """The ascending tuple of the places that a function finds."""
    return tuple([row[0] for row in rows_found(program, tree, name, 1)])


def found_pairs(program, tree, name):
    """The ascending tuple of the pairs of places that a function finds."""
    return tuple(rows_found(program, tree, name, 2))
