"""Folding: ways between states, laid so that no two of one letter lead from the same state.

Each state stands for a word, state 0 for the empty one; these words aren't kept. A signed row leads from a state to
another one where it makes the table of the first one's word and the back of the second one's. A way is a tuple
(start, place, end, row): the letter at that place of u, v, U, V leads from start to end, and the row makes the table
of start's word, the letter, and the back of end's word. So the rows of ways that go on from state 0 back to it make,
one behind another, the table of their letters.
"""

LETTER_PLACES = {"u": 0, "v": 1, "U": 2, "V": 3}


def back_place(place):
    """The place of the back of the letter at a place."""
    return (place + 2) % 4


def turned(row):
    """The row that makes the back of what a row makes."""
    return [-number for number in row[::-1]]


def put_behind(row, other):
    """Put another reduced row to the end of a reduced one, so that this stays reduced."""
    cut = 0
    while cut < min(len(row), len(other)) and row[len(row) - 1 - cut] == -other[cut]:
        cut += 1
    del row[len(row) - cut:]
    row.extend(other[cut:])


def joined(one, other):
    """The reduced row of two reduced ones, one behind the other."""
    row = list(one)
    put_behind(row, other)
    return row


def petal(word, row, fresh):
    """The ways of a word from state 0 back to it, by states from a fresh one on; the last way bears the row."""
    inner = list(range(fresh, fresh + len(word) - 1))
    places = [LETTER_PLACES[letter] for letter in word]
    rows = [[] for state in inner] + [row]
    return [(start, place, end, step) for start, place, end, step in zip([0] + inner, places, inner + [0], rows)]


def petals(words, rows):
    """The ways of reduced words from state 0 back to it, each by states of its own and bearing its row."""
    ways = []
    for word, row in zip(words, rows):
        ways.extend(petal(word, row, len(ways) + 1))
    return ways


def turned_way(way):
    """The same way, gone from its end to its start."""
    start, place, end, row = way
    return (end, back_place(place), start, turned(row))


def lay(laid, way):
    """Let a way lead both ways about."""
    for start, place, end, row in [way, turned_way(way)]:
        laid[start][place] = (end, row)


def lifted(laid, state):
    """Take a state away, and tell the ways that led from it."""
    ways = []
    for place in list(laid[state]):
        # A way from the state to itself stands there twice, and is lifted once.
        if place in laid[state]:
            end, row = laid[state].pop(place)
            laid[end].pop(back_place(place))
            ways.append((state, place, end, row))
    laid.pop(state)
    return ways


def moved(way, kept, lost, row):
    """A way with the kept state in the lost one's place; the row leads from the kept one to the lost one."""
    start, place, end, step = way
    if start == lost:
        start, step = kept, joined(row, step)
    if end == lost:
        end, step = kept, joined(step, turned(row))
    return (start, place, end, step)


def merged(laid, waiting, meeting):
    """The ways that wait when the two states of a meeting are made one; those of the lost one wait anew."""
    kept, lost, row = meeting
    if lost == 0:
        kept, lost, row = lost, kept, turned(row)
    return [moved(way, kept, lost, row) for way in waiting + lifted(laid, lost)]


def meeting_of(laid, way):
    """Two states that must be one where a way is to be laid, and a row that leads between them; or None."""
    for start, place, end, row in [way, turned_way(way)]:
        if place in laid[start]:
            other_end, other_row = laid[start][place]
            return (other_end, end, joined(turned(other_row), row))
    return None


def row_length(way):
    """How long the row of a way is."""
    return len(way[3])


def folded(ways):
    """The ways laid, for each state by places, and the rows, none empty, that were found to make one."""
    laid = {0: {}}
    for start, place, end, row in ways:
        laid[start] = {}
    relations = []
    waiting = list(ways)
    while waiting:
        # Short rows first, for each row that is laid may become part of others.
        way = min(waiting, key=row_length)
        waiting.remove(way)
        meeting = meeting_of(laid, way)
        if meeting is None:
            lay(laid, way)
        elif meeting[0] != meeting[1]:
            waiting = merged(laid, waiting, meeting)
        elif meeting[2]:
            relations.append(meeting[2])
    return (laid, relations)
