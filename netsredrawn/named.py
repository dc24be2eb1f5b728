"""Gluings of faces, and nets that have names."""

from netsredrawn.errors import BadName, BadTable, TooGreat
from netsredrawn.nets import need_net
from netsredrawn.values import is_number, need_number_in

MOST_SIDES = 480
MOST_SQUARES = 120
TETRA_FACES = ((1, 2, 3), (1, 5, -4), (2, 6, -5), (3, 4, -6))
CUBE_FACES = (
    (1, 2, 3, 4), (5, 6, 7, 8), (1, 10, -5, -9), (2, 11, -6, -10), (3, 12, -7, -11), (4, 9, -8, -12))
SOLIDS = ("tetra", "cube", "octa", "dodeca", "icosa")


def _sides(gluing):
    """The sides of faces, through all of them."""
    return [side for face in gluing for side in face]


def _has_gluing_form(value):
    """Whether a value is a tuple of tuples of integers other than 0, of so many in all."""
    if not isinstance(value, tuple):
        return False
    for face in value:
        if not isinstance(face, tuple) or len(face) == 0:
            return False
        for side in face:
            if not is_number(side) or side == 0:
                return False
    return 2 <= len(_sides(value)) <= MOST_SIDES


def _places_of_numbers(gluing):
    """For each number its sides, numbered from 0."""
    places = {}
    for place, side in enumerate(_sides(gluing)):
        places.setdefault(abs(side), []).append(place)
    return places


def _unpaired_number(gluing):
    """The least number that does not stand just twice in a gluing, or None."""
    places = _places_of_numbers(gluing)
    return min([number for number in places if len(places[number]) != 2], default=None)


def is_gluing(value):
    """Whether a value is a gluing."""
    return _has_gluing_form(value) and _unpaired_number(value) is None


def _glued_net(gluing):
    """The net of a gluing."""
    sides = _sides(gluing)
    zero = [flag ^ 1 for flag in range(2 * len(sides))]
    one = [0] * len(zero)
    two = [0] * len(zero)
    first = 0
    for face in gluing:
        for at in range(len(face)):
            end = 2 * (first + at) + 1
            begin = 2 * (first + (at + 1) % len(face))
            one[end], one[begin] = begin, end
        first += len(face)
    for place, other in _places_of_numbers(gluing).values():
        turn = 0
        if sides[place] != sides[other]:
            turn = 1
        for end in range(2):
            flag, there = 2 * place + end, 2 * other + (end ^ turn)
            two[flag], two[there] = there, flag
    return tuple(zero), tuple(one), tuple(two)


def glued(gluing):
    """The net of the gluing."""
    if not _has_gluing_form(gluing):
        raise BadTable("form", None)
    number = _unpaired_number(gluing)
    if number is not None:
        raise BadTable("twice", number)
    return _glued_net(gluing)


def _face_begins(net, flag):
    """The flags at which the sides of a face begin, gone around from a flag."""
    begins = [flag]
    there = net[1][net[0][flag]]
    while there != flag:
        begins.append(there)
        there = net[1][net[0][there]]
    return begins


def gluing_of(net):
    """The gluing read off the net."""
    zero, _, two = need_net(net)
    numbers = {}
    met = {}
    faces = []
    for flag in range(len(zero)):
        if flag in met:
            continue
        face = []
        for begin in _face_begins(net, flag):
            end = zero[begin]
            met[begin] = True
            met[end] = True
            if begin in numbers:
                face.append(numbers[begin])
                continue
            number = len(numbers) // 2 + 1
            face.append(number)
            # Where the other side of the edge begins tells its sign.
            numbers[two[end]] = -number
            numbers[two[begin]] = number
        faces.append(tuple(face))
    return tuple(faces)


def ring(number):
    """The ring of so many edges."""
    need_number_in(number, 1, 240)
    edges = tuple(range(1, number + 1))
    return _glued_net((edges, tuple([-edge for edge in reversed(edges)])))


def bundle(number):
    """The bundle of so many edges."""
    need_number_in(number, 1, 240)
    return _glued_net(tuple([(edge, -(edge % number + 1)) for edge in range(1, number + 1)]))


def _need_grid(wide, high):
    """Looks at the two numbers of a grid."""
    need_number_in(wide, 1, MOST_SQUARES)
    need_number_in(high, 1, MOST_SQUARES)
    if wide * high > MOST_SQUARES:
        raise TooGreat(MOST_SQUARES)


def _grid_faces(wide, high):
    """The faces of a grid."""
    many = wide * high
    faces = []
    for row in range(high):
        for column in range(wide):
            below = row * wide + column + 1
            right = many + row * wide + (column + 1) % wide + 1
            above = (row + 1) % high * wide + column + 1
            faces.append((below, right, -above, -(many + below)))
    return faces


def grid(wide, high):
    """The grid of wide times high squares."""
    _need_grid(wide, high)
    return _glued_net(tuple(_grid_faces(wide, high)))


def twisted_grid(wide, high):
    """The twisted grid of wide times high squares."""
    _need_grid(wide, high)
    faces = _grid_faces(wide, high)
    for row in range(high):
        place = row * wide + wide - 1
        below, _, above, left = faces[place]
        right = -(wide * high + (high - 1 - row) * wide + 1)
        faces[place] = (below, right, above, left)
    return _glued_net(tuple(faces))


def _dodeca_faces():
    """The faces of "dodeca": a ring of ten edges, ten spokes inwards, and two rings of five within.

    The edges 1 to 10 are the ring, 11 to 20 the spokes, 21 to 30 lead inside from the end of a
    spoke to that of the next but one.
    """
    faces = [(21, 23, 25, 27, 29), (22, 24, 26, 28, 30)]
    for at in range(10):
        faces.append((1 + at, 1 + (at + 1) % 10, 11 + (at + 2) % 10, -21 - at, -11 - at))
    return tuple(faces)


def solid(name):
    """One of the five solids."""
    if not isinstance(name, str) or name not in SOLIDS:
        raise BadName(name)
    if name == "tetra":
        return _glued_net(TETRA_FACES)
    if name in ("cube", "octa"):
        net = _glued_net(CUBE_FACES)
    else:
        net = _glued_net(_dodeca_faces())
    if name in ("octa", "icosa"):
        # Corners and faces of the others change places.
        return net[2], net[1], net[0]
    return net
