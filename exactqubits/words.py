"""The one word that does what a circuit of one qubit does, but for a factor."""

from exactqubits.gates import H_GATE, S_BACK_GATE, S_GATE, T_BACK_GATE

WORDS = (
    "", "h", "s", "hs", "sh", "ss", "hsh", "hss", "shs", "ssh", "sss", "hshs", "hssh", "hsss", "shss", "sshs",
    "hshss", "hsshs", "shssh", "shsss", "sshss", "hshssh", "hshsss", "hsshss",
)

# All gates but t and t' only take the axes x, y and z (1, 2 and 3) to one another, below 0 if they are turned round.
# So what such gates do is told by where the three come to; factors aren't in it.
STAYING = (1, 2, 3)
EFFECTS = {0: (1, -2, -3), 1: (-1, 2, -3), 2: (-1, -2, 3), 3: (3, -2, 1), 4: (2, -1, 3), 5: (-2, 1, 3)}

# A piece is known by the axis to which what is behind its t takes z; that, and what undoes it, are told here too.
PIECES = {1: "th", 2: "ths", 3: "t"}
BEHIND_T = {1: (3, -2, 1), 2: (3, 1, 2), 3: (1, 2, 3)}
UNDOING_THAT = {1: (3, -2, 1), 2: (2, 3, 1), 3: (1, 2, 3)}
Z_AXIS = 3


def followed(first, second):
    """What is done by one and then the other."""
    return tuple([second[axis - 1] if axis > 0 else -second[-axis - 1] for axis in first])


def effect_of(word):
    effect = STAYING
    for letter in word:
        effect = followed(effect, EFFECTS[H_GATE if letter == "h" else S_GATE])
    return effect


def word_of(gates):
    """The word of gates on one qubit, each as (g, q, controls)."""
    # The gates are taken from the last on, for then a t meets no piece but the newest. So pieces holds the axes of
    # the word's pieces from its end on, and start is what is to be done ahead of them.
    pieces = []
    start = STAYING
    for gate in reversed(gates):
        if gate[0] in EFFECTS:
            start = followed(EFFECTS[gate[0]], start)
        else:
            start = with_t_ahead(gate[0], start, pieces)
    first = [word for word in WORDS if effect_of(word) == start]
    return first[0] + "".join([PIECES[axis] for axis in reversed(pieces)])


def with_t_ahead(g, start, pieces):
    """Bring t or t', done ahead of start, to the pieces; answered is what is then to be done ahead of them."""
    # t' is t and s'.
    if g == T_BACK_GATE:
        start = followed(EFFECTS[S_BACK_GATE], start)
    # What turns z round makes t' of a t that is brought through it; that is t, with s ahead of what turns z round.
    if start[2] < 0:
        start = followed(EFFECTS[S_GATE], start)
    axis = abs(start[2])
    if axis == Z_AXIS and pieces:
        # Here t meets the t of the next piece, and the two are s.
        return followed(followed(start, EFFECTS[S_GATE]), BEHIND_T[pieces.pop()])
    pieces.append(axis)
    return followed(start, UNDOING_THAT[axis])
