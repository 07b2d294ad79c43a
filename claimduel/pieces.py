"""Pieces: guards, each with a form and what it is divided by, that tell how many numbers are right."""

from claimduel.checks import is_list, is_within, need_name, need_setting, need_told
from claimduel.claims import is_plain, need_plain
from claimduel.counting import count_pieces
from claimduel.errors import BadClaim, Misfit
from claimduel.forms import is_form
from claimduel.papers import fixed
from claimduel.plain import is_right
from claimduel.shapes import free_names
from claimduel.sums import worth_by
from claimduel.thinning import packed, settled_whole


def is_piece(value):
    if not is_list(value) or len(value) != 3:
        return False
    return is_plain(value[0]) and is_within(value[1], 1, None) and is_form(value[2])


def are_pieces(value):
    return is_list(value) and all([is_piece(piece) for piece in value])


def names_in_pieces(pieces):
    names = []
    for guard, _, form in pieces:
        names.extend(free_names(guard))
        names.extend([name for name, _ in form[1]])
    return names


def pieces_for(plain, name):
    plain = need_plain(plain, "plain")
    need_name(name, "name")
    pieces = []
    for guard, d, form in count_pieces(settled_whole(plain), name):
        pieces.append((packed(guard)[0][0], d, form))
    return tuple(pieces)


def many_by(pieces, setting):
    if not are_pieces(pieces):
        raise BadClaim("pieces")
    pieces = fixed(pieces)
    table = need_setting(setting, "setting")
    need_told(names_in_pieces(pieces), table)
    for guard, d, form in pieces:
        if is_right(guard, table):
            told = worth_by(form, table)
            if told % d != 0:
                raise Misfit("pieces")
            return told // d
    return None
