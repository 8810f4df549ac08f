"""Judges: flaws of plans, answers to questions, and whether claims hold."""

from sewnwhole.assemblies import Assembly
from sewnwhole.bolts import best_cutting, flaw_of_cutting, row_length
from sewnwhole.cores import core_paper, is_core_paper
from sewnwhole.errors import AssemblyError, CutError, JudgeError
from sewnwhole.patches import covered
from sewnwhole.plans import number_fault, sewing_plan
from sewnwhole.seams import DIRECTIONS, is_behind
from sewnwhole.sections import rectangles_of
from sewnwhole.symmetries import SYMMETRIES, canonical, symmetry_between, transformed


def seam_flaw(parts, direction):
    """Return what is wrong with a step that is a seam, or None; the parts are rectangles as they lie."""
    if len(parts) < 2:
        return "too few parts"
    if not is_behind(parts[-2], parts[-1], direction):
        return "no common side"
    return None


def end_flaw(patches, plan, parts):
    """Return what is wrong with a plan without a wrong step, or None."""
    if any([number not in plan for number in range(len(patches))]):
        return "patch left out"
    if len(parts) != 1:
        return "parts left"
    return None


def flaw_of_plan(patches, plan):
    """Return None if a plan sews just these patches as they lie, or the pair (place, what) of its first flaw."""
    parts = []
    for place, step in enumerate(plan):
        is_seam = step in DIRECTIONS
        what = seam_flaw(parts, step) if is_seam else number_fault(plan, place, patches, "used twice")
        if what is not None:
            return place, what
        parts = parts[:-2] + [covered(parts[-2:])] if is_seam else parts + [patches[step]]
    what = end_flaw(patches, plan, parts)
    return None if what is None else (len(plan), what)


def assembly_behind(pattern, patches, joins):
    """Return a new assembly in which joins have been made one after the other; raise JudgeError."""
    assembly = Assembly(pattern, patches)
    for place, (first, second) in enumerate(joins):
        try:
            assembly.join(first, second)
        except AssemblyError:
            raise JudgeError("join not possible", place) from None
    return assembly


def best_within(pieces, width, length):
    """Return the best cutting if there is one that is not longer than told, otherwise None."""
    try:
        least, cutting = best_cutting(pieces, width)
    except CutError:
        return None
    return cutting if least <= length else None


def answer_alike(first, second):
    """Return the claim that answers whether two patterns can be transformed into one another."""
    symmetry = symmetry_between(first, second)
    if symmetry is None:
        return "unlike", first, second, canonical(first), canonical(second)
    return "alike", first, second, symmetry


def answer_sewn(patches):
    """Return the claim that answers whether patches can be sewn."""
    plan = sewing_plan(patches)
    if plan is None:
        return "unsewn", patches, core_paper(patches)
    return "sewn", patches, plan


def answer_finish(pattern, patches, joins):
    """Return the claim that answers whether an assembly can be finished behind joins; raise JudgeError."""
    assembly = assembly_behind(pattern, patches, joins)
    if assembly.is_completable:
        return "finish", pattern, patches, list(joins), assembly.finish()
    return "stuck", pattern, patches, list(joins), assembly.core()


def answer_cut(pieces, width, length):
    """Return the claim that answers whether pieces can be cut from so much of a bolt."""
    cutting = best_within(pieces, width, length)
    if cutting is None:
        return "not cut", list(pieces), width, length
    return "cut", list(pieces), width, length, cutting


def holds_alike(first, second, symmetry):
    """Tell whether a symmetry transforms the first pattern into the second one."""
    return 0 <= symmetry < SYMMETRIES and transformed(first, symmetry) == second


def holds_unlike(first, second, form, other):
    """Tell whether two patterns have the canonical forms told, and these are different."""
    return canonical(first) == form and canonical(second) == other and form != other


def holds_sewn(patches, plan):
    """Tell whether a plan sews patches."""
    return flaw_of_plan(patches, plan) is None


def holds_unsewn(patches, paper):
    """Tell whether a core paper shows that patches cannot be sewn."""
    return is_core_paper(patches, paper)


def holds_finish(pattern, patches, joins, further):
    """Tell whether all joins and all further ones can be made and complete an assembly."""
    try:
        assembly = assembly_behind(pattern, patches, list(joins) + list(further))
    except JudgeError:
        return False
    return assembly.is_complete


def holds_stuck(pattern, patches, joins, paper):
    """Tell whether a core paper shows that an assembly cannot be completed behind joins."""
    try:
        assembly = assembly_behind(pattern, patches, joins)
    except JudgeError:
        return False
    return is_core_paper(rectangles_of(assembly.sections), paper)


def holds_cut(pieces, width, length, cutting):
    """Tell whether a cutting lays all pieces on so much of a bolt."""
    if flaw_of_cutting(pieces, width, cutting) is not None:
        return False
    return sum([row_length(pieces, row, width) for row in cutting]) <= length


def holds_not_cut(pieces, width, length):
    """Tell whether no cutting lays all pieces on so much of a bolt."""
    return best_within(pieces, width, length) is None


ANSWERS = {
    "alike": answer_alike,
    "sewn": answer_sewn,
    "finish": answer_finish,
    "cut": answer_cut,
}

CONDITIONS = {
    "alike": holds_alike,
    "unlike": holds_unlike,
    "sewn": holds_sewn,
    "unsewn": holds_unsewn,
    "finish": holds_finish,
    "stuck": holds_stuck,
    "cut": holds_cut,
    "not cut": holds_not_cut,
}


def answer(question):
    """Return a claim that holds and answers a question; raise JudgeError."""
    word, *told = question
    action = ANSWERS[word]
    return action(*told)


def judge(claim):
    """Tell whether a claim holds."""
    word, *told = claim
    condition = CONDITIONS[word]
    return condition(*told)


def judge_all(claims):
    """Return the list of the indices of the claims that do not hold, in order."""
    return [index for index, claim in enumerate(claims) if not judge(claim)]
