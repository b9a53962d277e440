"""The words of texts: names, integers, terms, rules."""

from dealtrows.base.names import is_name

_DIGITS = 60


def line_of(words):
    """The line of some words."""
    return " ".join([str(word) for word in words])


def integer_in(word):
    """The integer that a word is, or None."""
    digits = word[1:] if word.startswith("-") else word
    if not digits.isascii() or not digits.isdigit() or len(digits) > _DIGITS:
        return None
    # Integers are written in one way only.
    if digits.startswith("0") and word != "0":
        return None
    return int(word)


def integers_in_words(words):
    """The tuple of the integers that some words are, or None if one is none."""
    found = [integer_in(word) for word in words]
    return None if None in found else tuple(found)


def _term_in(word):
    """The term that a word is, or None."""
    return word if is_name(word) else integer_in(word)


def terms_in_words(words):
    """The tuple of the terms that some words are, or None if one is none."""
    found = [_term_in(word) for word in words]
    return None if None in found else tuple(found)


def are_all_names(words):
    """Whether all words are names."""
    return all([is_name(word) for word in words])


def split_at(words, sign):
    """The words before and behind a sign that stands there once, or None."""
    if words.count(sign) != 1:
        return None
    at = words.index(sign)
    return (words[:at], words[at + 1:])


def rule_words(rule):
    """The words of a rule."""
    if rule[0] == "by":
        return [rule[0], rule[1], *rule[2]]
    return list(rule)


def _rule_in(words):
    """The rule that some words are, or None."""
    if words in (["all"], ["any"], ["first"]):
        return (words[0],)
    if len(words) < 2 or not are_all_names(words[1:]):
        return None
    if words[0] == "by":
        return ("by", words[1], tuple(words[2:]))
    return ("with", words[1]) if words[0] == "with" and len(words) == 2 else None


def rules_in_line(line):
    """The table and the tuple of the rules, in any order, of a line of a placement, or None."""
    table, sign, rest = line.partition(": ")
    if sign == "" or not is_name(table):
        return None
    found = [_rule_in(told.split(" ")) for told in rest.split(", ")]
    return None if None in found else (table, tuple(found))
