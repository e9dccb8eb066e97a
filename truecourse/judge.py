"""The judge: whether claims are right, by the fixed formulas alone."""

from truecourse.boxes import is_box
from truecourse.carried import is_carried_taken
from truecourse.crossings import are_stretches
from truecourse.errors import TooMany
from truecourse.kinds import is_count
from truecourse.machines import is_machine
from truecourse.polys import are_terms, is_some_poly, is_system
from truecourse.runs import first_at_fault, is_run, is_run_form
from truecourse.safe import is_safe_paper
from truecourse.signs import is_held_sign, is_sign_word
from truecourse.steps import is_taken
from truecourse.switching import is_switched_of
from truecourse.terms import letters_in, terms_flow

_BAD = ("bad", ())


def _is_step_claim(claim):
    _, system, paper = claim
    return is_system(system) and is_taken(system, paper)


def _is_carried_claim(claim):
    _, system, paper = claim
    return is_system(system) and is_carried_taken(system, paper)


def _is_sign_claim(claim):
    _, poly, box, word, paper = claim
    if not is_some_poly(poly) or not is_box(box) or not is_sign_word(word):
        return False
    if poly and letters_in(poly) != len(box):
        return False
    try:
        return is_held_sign(poly, box, word, paper)
    except TooMany:
        return False


def _is_kept_claim(claim):
    _, system, poly = claim
    if not is_system(system) or not are_terms(len(system[1]), poly):
        return False
    return terms_flow(system[2], poly) == ()


def _is_safe_claim(claim):
    _, system, box, told = claim
    if not is_system(system) or not is_box(box) or len(box) != len(system[1]):
        return False
    return is_safe_paper(system, box, told)


def _is_stretches_claim(claim):
    _, run, guard, told = claim
    if not is_run(run) or not are_terms(len(run[1][1]), guard):
        return False
    return are_stretches(run, guard, told)


def _is_switched_claim(claim):
    _, machine, mode, box, told = claim
    if not is_machine(machine) or not is_count(mode) or mode >= len(machine[1]):
        return False
    if not is_box(box) or len(box) != len(machine[1][mode][1]):
        return False
    return is_switched_of(machine, mode, box, told)


# Of each claim but a run what says whether one of the right length is right, and this length.
_CLAIMS = {
    "step": _is_step_claim, "carried": _is_carried_claim, "sign": _is_sign_claim,
    "kept": _is_kept_claim, "safe": _is_safe_claim, "stretches": _is_stretches_claim,
    "switched": _is_switched_claim}
_LENGTHS = {
    "step": 3, "carried": 3, "sign": 5, "kept": 3, "safe": 4, "stretches": 4, "switched": 5}


def is_claim_word(value):
    return isinstance(value, str) and (value == "run" or value in _CLAIMS)


def _judged_run(value):
    if not is_run_form(value):
        return _BAD
    fault = first_at_fault(value[1], value[2], value[3])
    if fault is None:
        return ("ok", "run")
    return ("bad", (fault,))


def judged(value):
    if not isinstance(value, tuple) or len(value) == 0 or not is_claim_word(value[0]):
        return _BAD
    word = value[0]
    if word == "run":
        return _judged_run(value)
    if len(value) != _LENGTHS[word]:
        return _BAD
    is_right = _CLAIMS[word]
    return ("ok", word) if is_right(value) else _BAD
