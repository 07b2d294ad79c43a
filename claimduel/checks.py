"""What a value is: integers, names, settings; and the errors where it is none."""

from claimduel.errors import BadName, BadNumber, BadSetting, NoName

LETTERS = "abcdefghijklmnopqrstuvwxyz"
DIGITS = "0123456789"
WORDS = ("and", "or", "not", "all", "some", "many", "endless", "yes", "no")
LONGEST_NAME = 8


def is_list(value):
    return isinstance(value, (list, tuple))


def is_integer(value):
    return isinstance(value, int) and not isinstance(value, bool)


def is_within(value, least, most):
    if not is_integer(value):
        return False
    return (least is None or least <= value) and (most is None or value <= most)


def are_integers(value):
    return is_list(value) and all([is_integer(number) for number in value])


def is_name(value):
    if not isinstance(value, str) or not 1 <= len(value) <= LONGEST_NAME:
        return False
    if value[0] not in LETTERS or value in WORDS:
        return False
    return all([sign in LETTERS or sign in DIGITS for sign in value])


def is_named_number(value):
    """Whether it is a pair of a name and an integer."""
    return is_list(value) and len(value) == 2 and is_name(value[0]) and is_integer(value[1])


def setting_of(value):
    if isinstance(value, dict):
        pairs = list(value.items())
    elif is_list(value):
        pairs = value
    else:
        return None
    table = {}
    for pair in pairs:
        if not is_named_number(pair) or pair[0] in table:
            return None
        table[pair[0]] = pair[1]
    return tuple(sorted(table.items()))


def need_number(value, part, least=None, most=None):
    if not is_within(value, least, most):
        raise BadNumber(part)


def need_name(value, part):
    if not is_name(value):
        raise BadName(part)


def need_unlike_names(value, part):
    if not is_list(value) or not all([is_name(name) for name in value]):
        raise BadName(part)
    if len({name: True for name in value}) != len(value):
        raise BadName(part)


def need_setting(value, part):
    """The setting as a dict."""
    setting = setting_of(value)
    if setting is None:
        raise BadSetting(part)
    return dict(setting)


def need_told(names, table):
    """NoName for the least of these names that the table tells no number for."""
    lacking = [name for name in names if name not in table]
    if lacking:
        raise NoName(min(lacking))
