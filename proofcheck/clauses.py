"""The house's own clauses."""

from proofcheck.checks import clauses_check


def clauses_in_order(facts):
    """All clauses, the lower literal first, by it and then by the other one."""
    clauses = []
    for lower in range(2 * facts):
        for other in range(lower, 2 * facts):
            # A fact is so or isn't in every state: a clause that says only that says nothing.
            if lower // 2 != other // 2 or lower == other:
                clauses.append((lower, other))
    return clauses


def rows_in_order(facts):
    """All rows of at most two clauses: the fewest first, then by the first clause, then by the second."""
    clauses = clauses_in_order(facts)
    rows = [[]] + [[clause] for clause in clauses]
    for place, clause in enumerate(clauses):
        rows.extend([[clause, later] for later in clauses[place + 1:]])
    return rows


def find_clauses(task):
    """The first row of clauses that is taken, None if there is none."""
    for row in rows_in_order(task.facts):
        if clauses_check(task, row) == [0]:
            return row
    return None
