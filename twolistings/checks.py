"""The errors that are due ahead of all others: for rules, plans and questions that are none."""

from twolistings.errors import BadPlan, BadRules, NoQuestion
from twolistings.rules import Rule

MOST_RULES = 3
MOST_SIGNS = 4
QUESTIONS = ("same", "done", "sure")


def check_rules(rules):
    """Raises BadRules if a value, of any value, is no list of one to three rules."""
    if not isinstance(rules, list) or not 1 <= len(rules) <= MOST_RULES:
        raise BadRules()
    if not all([isinstance(rule, Rule) for rule in rules]):
        raise BadRules()


def check_plan(plan):
    """Raises BadPlan if a value, of any value, is no string of one to four signs "E" and "L" with just one "E"."""
    if not isinstance(plan, str) or len(plan) > MOST_SIGNS:
        raise BadPlan()
    if plan.count("E") != 1 or plan.count("L") != len(plan) - 1:
        raise BadPlan()


def check_question(word):
    """Raises NoQuestion if a value, of any value, is none of the three questions."""
    if word not in QUESTIONS:
        raise NoQuestion(word)
