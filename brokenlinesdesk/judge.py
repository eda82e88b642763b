"""The first broken rule of those from 20 on."""

from brokenlinesdesk.rules_20_to_30 import clauses_20_to_30
from brokenlinesdesk.rules_31_to_41 import clauses_31_to_41


# The rule and the record, [] where all hold.
def broken_clause(book):
    for rule, part, kind, holds in clauses_20_to_30() + clauses_31_to_41():
        for record in book.records(part, kind):
            if not holds(book, record):
                return [rule, record[0]]
    return []
