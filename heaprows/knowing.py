"""Knowing: the fewest questions about two keys that are always enough to find out what a full heap is."""

from heaprows.checks import check_arms, is_integer, is_integer_from, is_set_of_places
from heaprows.counting import all_heaps
from heaprows.errors import BadGoal, BadMany
from heaprows.rows import is_full_heap

MOST_KNOWN = 5


class Known:
    """The least number of questions that is always enough, with a plan to ask them, and bounds: no fewer are."""

    def __init__(self, number, plan, bounds):
        self.number = number
        self.plan = {knowledge: plan[knowledge] for knowledge in plan}
        self.bounds = {knowledge: bounds[knowledge] for knowledge in bounds}

    def __eq__(self, other):
        return (isinstance(other, Known) and self.number == other.number and self.plan == other.plan
                and self.bounds == other.bounds)

    def shows(self, many, goal, *, arms=2):
        """Return whether the plan is enough with this number, and the bounds allow no lesser one."""
        first = first_knowledge(many, goal, arms)
        if not all([is_knowledge(thing, many, arms) for thing in list(self.plan) + list(self.bounds)]):
            return False
        if not all([is_pair_of_plan(thing, many) for thing in self.plan.values()]):
            return False
        if not all([is_integer(thing) for thing in [self.number] + list(self.bounds.values())]):
            return False
        if first not in self.plan or self.plan[first][1] > self.number:
            return False
        if self.number > 0 and self.bounds.get(first, 0) < self.number:
            return False
        planned = [is_planned(knowledge, self.plan, goal) for knowledge in self.plan]
        return all(planned + [is_bound(knowledge, self.bounds, goal) for knowledge in self.bounds])


def know(many, goal, *, arms=2):
    """Return a Known."""
    first = first_knowledge(many, goal, arms)
    plan = {}
    add_plan(first, goal, plan)
    bounds = {knowledge: number for knowledge, (_, number) in plan.items()}
    return Known(bounds[first], plan, bounds)


def fewest_questions(many, goal, *, arms=2):
    """Return the least number of questions that is always enough."""
    return know(many, goal, arms=arms).number


def first_knowledge(many, goal, arms):
    """Return the knowledge of all full heaps; raise an error if an argument of know is wrong."""
    check_arms(arms)
    if not is_integer_from(many, 1, MOST_KNOWN):
        raise BadMany("the number of places is not an integer from 1 to 5")
    if goal is not None and not is_integer_from(goal, 0, many - 1):
        raise BadGoal("neither None nor a rank")
    return tuple(all_heaps(list(range(many)), arms=arms))


def add_plan(knowledge, goal, plan):
    """Add to a plan what to ask, and how many questions are enough, for a knowledge and all that come from it."""
    if is_enough(knowledge, goal):
        plan[knowledge] = (None, 0)
        return
    ways = []
    for question in questions_for(knowledge):
        parts = parts_by(question, knowledge)
        # A question with one answer only is of no use.
        if len(parts) == 2:
            for part in parts:
                if part not in plan:
                    add_plan(part, goal, plan)
            ways.append((1 + max([plan[part][1] for part in parts]), question))
    number, question = min(ways)
    plan[knowledge] = (question, number)


def is_enough(knowledge, goal):
    """Return whether a knowledge is enough for a goal."""
    if goal is None:
        return len(knowledge) == 1
    return len({row.index(goal) for row in knowledge}) == 1


def questions_for(knowledge):
    """Return the ascending list of all questions."""
    many = len(knowledge[0])
    return [(one, other) for other in range(many) for one in range(other)]


def parts_by(question, knowledge):
    """Return the list of the parts, one or two, into which the answers of a question divide a knowledge."""
    one, other = question
    lesser = tuple([row for row in knowledge if row[one] < row[other]])
    greater = tuple([row for row in knowledge if row[one] > row[other]])
    return [part for part in (lesser, greater) if part]


def is_knowledge(thing, many, arms):
    """Return whether a value is a knowledge."""
    if not isinstance(thing, tuple) or len(thing) == 0 or not all([isinstance(row, tuple) for row in thing]):
        return False
    if not all([is_full_heap(row, many, arms) for row in thing]):
        return False
    return list(thing) == sorted(set(thing))


def is_pair_of_plan(thing, many):
    """Return whether a value is a pair of a question or None and of an integer of at least 0."""
    if not isinstance(thing, tuple) or len(thing) != 2:
        return False
    question, number = thing
    if question is not None and not (is_set_of_places(question, many) and len(question) == 2):
        return False
    return is_integer(number) and number >= 0


def is_planned(knowledge, plan, goal):
    """Return whether a knowledge is enough, or both parts by its question are in a plan with lesser integers."""
    question, number = plan[knowledge]
    if is_enough(knowledge, goal):
        return True
    if question is None:
        return False
    return all([part in plan and plan[part][1] < number for part in parts_by(question, knowledge)])


def is_bound(knowledge, bounds, goal):
    """Return whether, for each question, some part has at least the integer of a knowledge minus 1."""
    number = bounds[knowledge]
    if number <= 0:
        return True
    if is_enough(knowledge, goal):
        return False
    return all([max([bounds.get(part, 0) for part in parts_by(question, knowledge)]) >= number - 1
                for question in questions_for(knowledge)])
