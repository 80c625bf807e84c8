"""Points 36, 37 and 39 told once more, plainly and slowly, to hold the program against; and drawn levels and runs."""

import itertools
import random

import model
from firstbreach.errors import InvalidLevel, TooLarge
from firstbreach.levels import Level
from firstbreach.supplies import Supply
from firstbreach.tasks import Task
from samples import drawn_core


def cores_of(level):
    """A dict from the paths to the cores."""
    found = {(): level.core}
    for number, guest in level.guests.items():
        for path, core in cores_of(guest).items():
            found[(number,) + path] = core
    return found


def flat(level, joint):
    """A dict from the paths to the parts of a joint standing or a joint row, or None if it has another form."""
    own, inner = joint
    if len(inner) != len(level.guests):
        return None
    found = {(): own}
    for (number, guest), part in zip(sorted(level.guests.items()), inner):
        below = flat(guest, part)
        if below is None:
            return None
        found.update({(number,) + path: one for path, one in below.items()})
    return found


def woven(level, parts, path=()):
    """The joint standing or joint row with these parts by path."""
    guests = [woven(guest, parts, path + (number,)) for number, guest in sorted(level.guests.items())]
    return (parts[path], tuple(guests))


def possible(level, joint, row):
    rows, standings = flat(level, row), flat(level, joint)
    if rows is None:
        return False
    for path, core in cores_of(level).items():
        if not model.possible(core, standings[path], rows[path]):
            return False
        if path and rows[path][0] != int(rows[path[:-1]][2] == path[-1]):
            return False
    return True


def step(level, joint, row):
    rows, standings = flat(level, row), flat(level, joint)
    cores = cores_of(level)
    return woven(level, {path: model.step(cores[path], standings[path], rows[path]) for path in cores})


def breaches(level, joint, row):
    rows, standings = flat(level, row), flat(level, joint)
    found = []
    for path, core in cores_of(level).items():
        found += [(path, party) for party in model.breaches(core, standings[path], rows[path])]
    return sorted(found)


def options(level, joint, kept):
    cores = cores_of(level)
    paths = sorted(cores)
    found = []
    standings = flat(level, joint)
    rows = [[row for row in model.all_rows(cores[path]) if model.possible(cores[path], standings[path], row)]
            for path in paths]
    for chosen in itertools.product(*rows):
        row = woven(level, dict(zip(paths, chosen)))
        if possible(level, joint, row) and not set(breaches(level, joint, row)) & set(kept):
            found.append(row)
    return sorted(found)


def searched(level, start, kept, breaks, mark=0):
    """What a search through all options finds: the pairs with their least numbers of rows, and a shortest break's.

    breaks(mark, joint, row, after) tells the next mark.
    """
    found = {(start, mark): 0}
    front = [(start, mark)]
    while front:
        later = []
        for joint, before in front:
            for row in level.joint_options(joint, kept):
                after = level.after(joint, row)
                following = breaks(before, joint, row, after)
                if following == -1:
                    return found, found[(joint, before)] + 1
                if (after, following) not in found:
                    found[(after, following)] = found[(joint, before)] + 1
                    later.append((after, following))
        front = later
    return found, None


def drawn_level(seed, most_weight=300):
    """A level with one to three cores, in every form."""
    draw = random.Random(seed)
    forms = [(), ((),), ((),), ((), ()), (((),),)]
    while True:
        try:
            level = grown(draw, draw.choice(forms))
        except (InvalidLevel, TooLarge):
            continue
        product = 1
        for core in cores_of(level).values():
            product *= core.weight
        if product <= most_weight ** len(level.paths):
            return level


def grown(draw, form):
    """A level with guests of these forms."""
    servers = []
    for _ in form:
        length = draw.randint(1, 2)
        servers.append(Task.serving(length, draw.randint(length, 4)))
    core = drawn_core(draw.randint(0, 9999), most_tasks=1, most_weight=150)
    tasks = list(core.tasks)
    for server in servers:
        tasks.insert(draw.randint(0, len(tasks)), server)
    guests = {}
    places = [number for number, task in enumerate(tasks) if task in servers]
    for number, below in zip(places, form):
        guest = grown(draw, below)
        if draw.random() < 0.8:
            server = tasks[number]
            share = Supply.share(len(server.nodes[0][0]), server.edges[0][2])
            guest = guest.exchanged((), guest.core.changed(supply=share))
        guests[number] = guest
    return Level(core.changed(tasks=tasks), guests)


def drawn_joint_run(level, seed, count, kept=()):
    """The joint rows of a drawn run, and the joint standings after them."""
    draw = random.Random(seed)
    joint = level.start()
    rows, joints = [], []
    for _ in range(count):
        choices = list(level.joint_options(joint, kept))
        if not choices:
            break
        running = [row for row in choices if row[0][2] >= 0]
        row = draw.choice(running if running and draw.random() < 0.7 else choices)
        joint = level.after(joint, row)
        rows.append(row)
        joints.append(joint)
    return rows, joints
