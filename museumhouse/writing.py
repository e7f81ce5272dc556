"""Writes a question that was read."""

from museumhouse.grammar import AND, BINDING, NOT, OR


# A text, and how close what's in it is bound at least.
class Piece:
    def __init__(self, text, binding):
        self.text = text
        self.binding = binding


def bracketed(piece, least):
    return piece.text if piece.binding >= least else "(" + piece.text + ")"


# Behind the word the same word goes on without brackets, for that's all the rest; ahead of it, it would not.
def both_piece(first, word, rest):
    binding = BINDING[word]
    return Piece(bracketed(first, binding + 1) + " " + word + " " + bracketed(rest, binding), binding)


# The step's piece, made out of the last of these, which it takes away.
def take_piece(pieces, step):
    if step[0] == NOT:
        return Piece(NOT + " " + bracketed(pieces.pop(), BINDING[NOT]), BINDING[NOT])
    if step[0] in (AND, OR):
        rest = pieces.pop()
        return both_piece(pieces.pop(), step[0], rest)
    return Piece(" ".join(step), BINDING[NOT])


def written(steps):
    pieces = []
    for step in steps:
        pieces.append(take_piece(pieces, step))
    return pieces[0].text
