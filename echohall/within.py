"""Two machines held against one another: within, alike, and the papers that show it."""

from echohall.growth import Growth, letters_by, need_short
from echohall.leasts import are_pairs_of_rooms
from echohall.machines import is_below, is_rising
from echohall.put import need_one_sheet
from echohall.triples import Triples


def held_against(one, other, limit, most):
    """(span, least): least is of the word that the one lets by and the other doesn't, None where there is none."""
    grown = Growth(Triples(one, other), limit, most)
    stretches = grown.rules.stretches
    span = sorted((p, q, stretches.pairs_of(number)) for p, q, number in grown.sizes)
    wrong = [triple for triple in grown.sizes if is_wrong(one, other, stretches, triple)]
    return (span, grown.least_of(wrong))


def is_wrong(one, other, stretches, triple):
    """Whether words of this triple are let by in the one, but not in the other."""
    p, q, number = triple
    return p in one[3] and q in one[4] and not stretches.leads(number, other[3], other[4])


def told_word(sheet, least, most):
    size, word = least
    need_short([size], most)
    return ("word", letters_by(sheet, word))


def within(one, other, limit=16, most=400):
    need_one_sheet(one, other)
    span, least = held_against(one, other, limit, most)
    if least is None:
        return ("within", span)
    return told_word(one[0], least, most)


def alike(one, other, limit=16, most=400):
    need_one_sheet(one, other)
    here, less = held_against(one, other, limit, most)
    there, more = held_against(other, one, limit, most)
    found = [least for least in (less, more) if least is not None]
    if not found:
        return ("alike", here, there)
    return told_word(one[0], lesser_of(found), most)


def lesser_of(found):
    """The least of these; where the words aren't kept, all of one size serve as well."""
    size = min([least[0] for least in found])
    words = [word for many, word in found if many == size and word is not None]
    return (size, min(words, default=None))


def is_triple(one, other, thing):
    p, q, pairs = thing
    if not is_below(p, one[1]) or not is_below(q, one[1]):
        return False
    return are_pairs_of_rooms(other, pairs) and is_rising(pairs)


def shows_within(one, other, span):
    need_one_sheet(one, other)
    if not all(is_triple(one, other, triple) for triple in span):
        return False
    rules = Triples(one, other)
    triples = [(p, q, rules.stretches.of_pairs(pairs)) for p, q, pairs in span]
    if any(is_wrong(one, other, rules.stretches, triple) for triple in triples):
        return False
    return rules.are_closed(triples)
