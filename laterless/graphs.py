"""Graphs as dicts from nodes to lists of steps (pay, letter, node): what can be paid at most, and a row for it."""

from laterless.ways import before, ring_worths


def most_paid(base, graph):
    """Return the dict from the nodes to the greatest number that can be paid from there on."""
    return ring_worths(base, base, {node: best_pays(graph[node]) for node in graph})


def best_pays(steps):
    """Return the dict from the nodes that the steps lead to, to the greatest pay on the way there."""
    pays = {}
    for pay, _, node in steps:
        if node not in pays or pay > pays[node]:
            pays[node] = pay
    return pays


def best_row(base, graph, worths, first):
    """Return a row from the first node on along which its worth, the greatest one, is paid."""
    chosen = {}
    for node in graph:
        for pay, letter, later in graph[node]:
            if before(base * pay, worths[later], base) == worths[node]:
                chosen[node] = (letter, later)
    return row_along(chosen, first)


def row_along(chosen, first):
    """Return the row that is read from the first node on, chosen telling the letter and the next node of each."""
    letters = []
    places = {}
    node = first
    while node not in places:
        places[node] = len(letters)
        letter, later = chosen[node]
        letters.append(letter)
        node = later
    return ("".join(letters[:places[node]]), "".join(letters[places[node]:]))
