"""Books held to rules: a table that shows that a rule is kept, or a run that breaks it."""

from echohall.courses import CourseGrowth, Courses
from echohall.growth import need_short
from echohall.leasts import are_pairs_of_rooms
from echohall.machines import is_below, is_rising
from echohall.put import need_one_sheet


def is_broken(rule, rules, course):
    """Whether a run is over here whose word the rule doesn't let by."""
    if course[0] != 0 or rules.row_of(course)[0] != "back":
        return False
    return not rules.stretches.leads(course[2], rule[3], rule[4])


def keeps(book, rule, limit=16, most=400):
    need_one_sheet(book, rule)
    rules = Courses(book, rule)
    grown = CourseGrowth(rules, limit, most)
    broken = [course for course in grown.sizes if is_broken(rule, rules, course)]
    if not broken:
        return ("keeps", sorted((e, r, rules.stretches.pairs_of(made)) for e, r, made in grown.sizes))
    size = min([grown.sizes[course] for course in broken])
    need_short([size], most)
    word, choices = min([grown.leasts[course] for course in broken if grown.sizes[course] == size])
    return ("breaks", list(choices))


def is_course(book, rule, thing):
    errand, row, pairs = thing
    if not is_below(errand, len(book[1])) or not is_below(row, len(book[1][errand][1])):
        return False
    return are_pairs_of_rooms(rule, pairs) and is_rising(pairs)


def shows_keeps(book, rule, table):
    need_one_sheet(book, rule)
    if not all(is_course(book, rule, thing) for thing in table):
        return False
    rules = Courses(book, rule)
    courses = [(e, r, rules.stretches.of_pairs(pairs)) for e, r, pairs in table]
    if any(is_broken(rule, rules, course) for course in courses):
        return False
    return are_closed(rules, courses)


def are_closed(rules, courses):
    """Whether the courses of no steps are among these, and all that follow from these."""
    known = {course: True for course in courses}
    if not all(course in known for course in rules.begins()):
        return False
    asking = [course for course in known if rules.row_of(course)[0] == "ask"]
    backing = [course for course in known if rules.row_of(course)[0] == "back"]
    for course in known:
        if rules.row_of(course)[0] == "say" and not all(made in known for made in rules.said(course)):
            return False
    return all(made in known for asker in asking for done in backing for made in rules.returned(asker, done))
