"""The papers for paces, looked at line by line by the conditions of the document, and values that are near to them."""

from anyofthese.plans import Plan, RoundRule


def are_told(plan, paper, whole):
    """Whether the paper is a dict from some moments of the plan, or all of them, with sorted keys, to integers."""
    if not isinstance(paper, dict) or not paper or list(paper) != sorted(paper):
        return False
    if not set(paper) <= set(plan.moments) or whole and len(paper) < len(plan.moments):
        return False
    parts = [part for line in paper.values() for part in line]
    return all(line.__class__ is tuple for line in paper.values()) and all(part.__class__ is int for part in parts)


def steps_of(plan, paper):
    """The list of (a, b, k, back) of all round terms of the rules of the paper; None if a line tells no such rule."""
    found = []
    for a, (position, _, _) in paper.items():
        rule = plan.rules()[position]
        if rule.moment != a or not all(b in paper for b, _, _ in rule.terms):
            return None
        found += [(a, *term) for term in rule.terms]
    return found


def told_bar(plan, pace, paper):
    """Whether the paper is a bar for the pace."""
    if not are_told(plan, paper, False) or steps_of(plan, paper) is None:
        return False
    top, bottom = pace
    for a, b, k, back in steps_of(plan, paper):
        reach = bottom * k - top * back + paper[b][1]
        if reach < paper[a][1] or reach == paper[a][1] and back == 0 and paper[b][2] >= paper[a][2]:
            return False
    return True


def told_ban(plan, paper):
    """Whether the paper is a ban."""
    if not are_told(plan, paper, False) or steps_of(plan, paper) is None:
        return False
    for a, b, k, back in steps_of(plan, paper):
        lower = paper[b][2] < paper[a][2]
        same = paper[b][2] == paper[a][2] and back == 0 and len(paper) * k + paper[b][1] >= paper[a][1] + 1
        if not lower and not same:
            return False
    return True


def told_licence(plan, paper):
    """Whether the paper is a licence."""
    if not are_told(plan, paper, True):
        return False
    for rule in plan.rules():
        number, level = paper[rule.moment]
        for b, k, back in rule.terms:
            if paper[b][1] < level or paper[b][1] == level and back == 0 and number >= paper[b][0] + k:
                break
        else:
            return False
    return True


def odd_papers(paper):
    """Values that are near to the paper and are none, of whatever plan: other kinds at each place."""
    found = [list(paper), tuple(paper), list(paper.items()), str(paper), {}]
    for key, line in paper.items():
        others = [None, 5, list(line), line[:-1], (*line, 0), (), {place: part for place, part in enumerate(line)}]
        for place in range(len(line)):
            for part in (None, True, False, str(line[place]), (line[place],), [line[place]]):
                others.append((*line[:place], part, *line[place + 1:]))
        found += [{**paper, key: other} for other in others]
        rest = {other: paper[other] for other in paper if other != key}
        found += [{**rest, strange: line} for strange in (None, 0, True, key.upper(), key + "zz", (key,), b"a", "")]
        found += [{**paper, strange: line} for strange in (None, 0, True, "zzz", (key,), "")]
    return found


def moved_papers(paper, by):
    """The paper with each integer so much greater or less."""
    for key, line in paper.items():
        for place in range(len(line)):
            for step in (by, -by):
                yield {**paper, key: (*line[:place], line[place] + step, *line[place + 1:])}


def times_by_number(plan, number):
    """The plan with all shifts times the number."""
    rules = [
        RoundRule(rule.moment, [(moment, shift * number, back) for moment, shift, back in rule.terms])
        for rule in plan.rules()
    ]
    return Plan(plan.moments, rules)


def near(pace, parts, by):
    """The pace that is greater by this number of so many parts."""
    top, bottom = pace
    return top * parts + bottom * by, bottom * parts
