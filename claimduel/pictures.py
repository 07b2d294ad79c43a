"""Pictures of which numbers are right, and the texts of layouts and settings."""

from claimduel.checks import need_name, need_number, need_setting, need_told
from claimduel.claims import need_claim
from claimduel.layouts import need_layout
from claimduel.plain import is_right
from claimduel.plainly import right_in
from claimduel.shapes import free_names
from claimduel.spans import is_in_spans, spans_of

MOST_SIGNS = 200


def picture(claim, name, setting, first, last):
    claim = need_claim(claim, "claim")
    need_name(name, "name")
    table = need_setting(setting, "setting")
    need_number(first, "first")
    need_number(last, "last", first, first + MOST_SIGNS - 1)
    need_told([other for other in free_names(claim) if other != name], table)
    right = right_in(claim, name, table, True)
    spans = spans_of(right, name)
    signs = []
    for number in range(first, last + 1):
        is_so = is_right(right, {name: number}) if spans is None else is_in_spans(spans, number)
        signs.append("#" if is_so else ".")
    return "".join(signs)


def end_text(end):
    return "." if end is None else f"{end}"


def layout_text(layout):
    need_layout(layout, "layout")
    rows = [f"{end_text(first)} {end_text(last)} {step}" for first, last, step in layout.rows]
    return " , ".join(rows) if rows else "-"


def setting_text(setting):
    table = need_setting(setting, "setting")
    return " ".join([f"{name} {table[name]}" for name in sorted(table)]) if table else "-"
