"""Display forms of passages and of selections."""

from textpassages.passages import passage_words


def shown_word(session, word):
    if word in session.weights:
        return 2 * word + 1
    return 2 * word


def shown_passage(session, a, b):
    front = [] if a in session.text.begins else [0]
    behind = [] if b in session.text.ends else [0]
    return front + [shown_word(session, word) for word in passage_words(session, a, b)] + behind


def shown_selection(session, passages):
    shown = []
    for a, b in passages:
        if len(shown) > 0:
            shown.append(1)
        shown.extend(shown_passage(session, a, b))
    return shown
