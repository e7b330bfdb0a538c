"""All mates of small WORLDS, found by trying all WISHES and all LUCK; and such WORLDS, by numbers."""

from itertools import product
from random import Random

from sendershade.views import view_of, view_till
from tests.model import Model, some_letter, some_rule
from tests.scenes import mixing_choice


def routes(houses):
    return [tuple(own for own in range(houses) if mask >> own & 1) for mask in range(1, 1 << houses)]


def wishes_tried(start, view):
    """For each PERSON the list of the WISHES by which the rest may see of it what it sees."""
    net, rest = start[:2]
    words = sorted({row[4] for row in view[0] if row[4] is not None} | {0})
    told = []
    for person in range(net[0]):
        seen = [row for row in view[0] if row[0] == ("person", person)]
        if person in rest[0] or not seen:
            # What is sent behind the PLAN is not seen.
            told.append([None])
            continue
        spot, moment = seen[0][1], seen[0][2]
        told.append([(moment, (person, route, goal, word)) for route in routes(net[1]) if ("house", route[0]) == spot
                     for goal in range(net[0]) for word in (words if goal in rest[0] else [0])])
    return told


def lucks_tried(world, choice):
    """All tuples of LUCK, one for each HOUSE, that tell unlike things at the next moment."""
    model = Model(world)
    model.moment += 1
    for token in choice[1]:
        model.come(token)
    told = []
    for house in range(model.net[1]):
        lying = len(model.boxes[house][0])
        many = 0 if house in model.rest[1] else len(model.let_go(house))
        told.append(list(product(*[range(lying - turn) for turn in range(many)])))
    return product(*told)


def played_on(world, row, choice):
    """All pairs of a WORLD and a row of places to which choice leads, by any LUCK."""
    told = []
    for lucks in lucks_tried(world, choice):
        model = Model(world)
        for box, luck in zip(model.boxes, lucks):
            box[2] = list(luck)
        model.play(choice)
        told.append((model.world(), row + sum(lucks, ())))
    return told


def mates(start, plan, view):
    """The set of the pairs of the row of places and of the senders of all TOKENS that some mate has."""
    told, tills = set(), [view_till(view, moment + 1) for moment in range(len(plan))]
    for wishes in product(*wishes_tried(start, view)):
        found = [(start[:3] + (wishes, 0, tuple(((), (), ()) for _ in start[5]), (), ()), ())]
        for choice, till in zip(plan, tills):
            found = [pair for world, row in found for pair in played_on(world, row, choice) if view_of(pair[0]) == till]
        told.update((row, tuple(cover[0][0] for cover, _, _ in world[6])) for world, row in found)
    return told


def some_hall(number, many=5, rule=None):
    """A small WORLD at its beginning with any RULES, or with rule, a PLAN for it, and the WORLD behind it."""
    chance = Random(number)
    net = (chance.randrange(2, 5), chance.choice((1, 1, 2)))
    rest = (tuple(own for own in range(net[0]) if chance.random() < 0.3),
            (net[1] - 1,) if net[1] > 1 and chance.random() < 0.3 else ())
    rules = tuple(some_rule(chance) if rule is None else rule for _ in range(net[1]))
    wishes = tuple(None if own in rest[0] else (chance.choice((1, 1, 2)), some_letter(chance, net, own))
                   for own in range(net[0]))
    lucks = tuple(tuple(chance.randrange(9) for _ in range(4)) for _ in range(net[1]))
    start = (net, rest, rules, wishes, 0, tuple(((), (), luck) for luck in lucks), (), ())
    model, plan = Model(start), []
    for _ in range(many):
        letters, comes = mixing_choice(chance, model.world())
        plan.append((letters, comes[:3]))
        model.play(plan[-1])
    return start, tuple(plan), model.world()
