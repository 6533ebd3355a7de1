"""The steps of an edit, and the checks that are due ahead of all that is asked about a plan of them."""

from twolistings.checks import check_plan, check_question, check_rules

DEMANDS = ("put", "strike", "other", "mend")
SAYINGS = ("absent", "struck", "shown", "newest")


def check_game(rules, plan, question):
    """Raises BadRules, then BadPlan, then NoQuestion if one of these, of any value, is none."""
    check_rules(rules)
    check_plan(plan)
    check_question(question)


def signs_of(plan, role):
    """The signs of the steps of an edit; a mend writes one list, whatever the plan is."""
    return "L" if role == "mend" else plan


def is_at_list(plan, position):
    """Whether the next step from a position writes a list."""
    role, done = position[:2]
    return role != "rest" and signs_of(plan, role)[done] == "L"
