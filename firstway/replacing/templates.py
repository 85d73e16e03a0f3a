"""Templates: what is put in the place of matches."""

from firstway.errors import TemplateError

# What a dollar sign and the character behind it stand for.
_SIGNS = {"$": ("text", "$"), "&": ("match",), "[": ("before",), "]": ("behind",)}


def read_template(template, names):
    """The list of the parts of a template; the names are those of the groups of the pattern."""
    groups = _groups_by_word(names)
    parts = []
    at = 0
    while at < len(template):
        if template[at] == "$":
            part, at = _read_dollar(template, at, groups)
        else:
            part = ("text", template[at])
            at += 1
        if part[0] == "text" and parts and parts[-1][0] == "text":
            parts[-1] = ("text", parts[-1][1] + part[1])
        else:
            parts.append(part)
    return parts


def _groups_by_word(names):
    """The numbers of the groups by all words that stand for them."""
    groups = {}
    for number, name in enumerate(names):
        groups[str(number)] = number
        if name is not None:
            groups[name] = number
    return groups


def _read_dollar(template, at, groups):
    """The part that begins with the dollar sign at an index, and the index behind it."""
    sign = template[at + 1:at + 2]
    if sign in _SIGNS:
        return (_SIGNS[sign], at + 2)
    end = template.find("}", at)
    if sign != "{" or end < 0:
        raise TemplateError(at + 1)
    word = template[at + 2:end]
    if word not in groups:
        raise TemplateError(at + 1)
    return (("group", groups[word]), end + 1)


def filled(parts, text, match):
    """The text that the parts of a template stand for at a match of the text."""
    return "".join([_filled_part(part, text, match) for part in parts])


def _filled_part(part, text, match):
    """The text that one part stands for."""
    start, stop, groups = match
    kind = part[0]
    if kind == "text":
        return part[1]
    if kind == "before":
        return text[:start]
    if kind == "behind":
        return text[stop:]
    if kind == "match":
        return text[start:stop]
    span = groups[part[1]]
    if span is None:
        return ""
    begin, end = span
    return text[begin:end]
