"""Plans of pieces (seconds, weight, most per hour), and the record of how far a plan has come."""


class PlanRecord:
    def __init__(self, on, goal, catching, plan):
        self.on = on
        self.goal = goal
        self.catching = catching
        self.plan = plan
        self.t = 0
        self.counted = 0
        self.strokes = 0


def copied_record(record):
    copied = PlanRecord(record.on, record.goal, record.catching, record.plan)
    copied.t = record.t
    copied.counted = record.counted
    copied.strokes = record.strokes
    return copied


def record_off(record):
    copied = copied_record(record)
    copied.on = False
    return copied


def plan_length(plan):
    return sum([piece[0] for piece in plan])


def summed(plan, t, place):
    total = 0
    left = t
    for piece in plan:
        seconds = min(left, piece[0])
        total += seconds * piece[place]
        left -= seconds
    return total


def weights(plan, t):
    return summed(plan, t, 1)


def room(plan, t):
    return summed(plan, t, 2) // 3600


def target(record, t):
    plan = record.plan
    return record.goal * weights(plan, t) // weights(plan, plan_length(plan))


def next_record(record):
    following = copied_record(record)
    t = record.t + 1
    base = record.counted if record.catching else target(record, record.t)
    wished = target(record, t) - base
    possible = room(record.plan, t) - room(record.plan, record.t)
    following.t = t
    following.counted = record.counted + min(wished, possible)
    following.strokes = following.counted // 10
    return following
