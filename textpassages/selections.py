"""The best selection of up to k passages."""

from textpassages.passages import eligible_passages, score


class Selection:
    def __init__(self, total, passages):
        self.total = total
        self.passages = passages


def best_first(selection):
    return (-selection.total, len(selection.passages), selection.passages)


def scored_by_begin(session):
    found = [[] for begin in range(len(session.text.words) + 1)]
    for a, b in eligible_passages(session):
        found[a].append((b, score(session, a, b)))
    return found


def with_one_more(fewer, scored, g):
    # Of all selections that begin with one and the same passage, the best goes on with the best of what may follow.
    # So no other selection needs to be known from a position on.
    behind_all = len(fewer) - 1
    found = list(fewer)
    for a in range(behind_all - 1, 0, -1):
        choices = [found[a + 1]]
        for b, value in scored[a]:
            rest = fewer[min(b + g + 1, behind_all)]
            choices.append(Selection(value + rest.total, ((a, b),) + rest.passages))
        found[a] = min(choices, key=best_first)
    return found


def best_passages(session, k):
    scored = scored_by_begin(session)
    # For each position, and for the one behind the last: the best selection that doesn't begin ahead of it.
    best_from = [Selection(0, ())] * (len(session.text.words) + 2)
    for most in range(k):
        best_from = with_one_more(best_from, scored, session.settings.g)
    return best_from[1].passages
