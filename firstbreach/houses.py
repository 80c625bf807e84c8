"""Houses: levels that are played together, and the loose tasks that their idle cores run."""

from firstbreach.errors import BadAct, BadRow, UnknownCore
from firstbreach.promises import left_over
from firstbreach.writing import check_plan


class Moment:
    """What a house is like between two ticks or deeds; it is never changed, another one takes its place."""

    def __init__(self, played, levels, joints, place, breaks, waste):
        self.played = played
        self.level_by_name = levels
        self.joint_by_name = joints
        self.place = place
        self.breaks = breaks
        self.waste = waste


class House:
    """The house of a plan."""

    def __init__(self, levels, hall=None):
        check_plan(levels, hall)
        self.names = list(levels)
        self.hall = hall
        joints = {name: level.start() for name, level in levels.items()}
        place = None if hall is None else hall.start()
        self.moment = Moment(0, {name: level for name, level in levels.items()}, joints, place, {}, 0)

    @property
    def clock(self):
        """The number of ticks played."""
        return self.moment.played

    @property
    def position(self):
        """The position of the hall, or None."""
        return self.moment.place

    @property
    def wasted(self):
        """The number of the wasted acts made."""
        return self.moment.waste

    def level_of(self, name):
        """Returns the present level with this name."""
        if name not in self.names:
            raise UnknownCore(name)
        return self.moment.level_by_name[name]

    def joint_of(self, name):
        """Returns the present joint standing of the level with this name."""
        if name not in self.names:
            raise UnknownCore(name)
        return self.moment.joint_by_name[name]

    def breach_ticks(self):
        """Returns a dict from the triples (name, path, party) to the tick of their first breach."""
        breaks = self.moment.breaks
        return {triple: breaks[triple] for triple in breaks}

    def tick(self, rows, *, picks=None):
        """Plays a tick; returns the list of the pairs (name, ran) of the acts made."""
        for index, name in enumerate(self.names):
            if name not in rows or not self.level_of(name).is_possible(self.joint_of(name), rows[name]):
                raise BadRow(index)
        acts = self.acts_for(rows, {} if picks is None else picks)
        now = self.moment
        joints = {name: now.level_by_name[name].led_to(now.joint_by_name[name], rows[name]) for name in self.names}
        place = acts[-1][2] if acts else now.place
        waste = now.waste + sum([act[4] for act in acts])
        self.moment = Moment(now.played + 1, now.level_by_name, joints, place, self.breaks_with(rows), waste)
        return [(self.names[act[0]], act[3]) for act in acts]

    def acts_for(self, rows, picks):
        """Returns the list of the tuples of the acts that follow these rows."""
        if self.hall is None:
            return []
        position = self.moment.place
        acts = []
        for core, name in enumerate(self.names):
            if left_over(rows[name][0]) == 1:
                possible = self.hall.acts_of(position, core)
                if name in picks:
                    possible = [act for act in possible if act[1] == picks[name]]
                if not possible:
                    raise BadAct(core)
                acts.append(possible[0])
                position = possible[0][2]
        return acts

    def breaks_with(self, rows):
        """Returns the dict of the ticks of the first breaches, with those that these rows tell."""
        now = self.moment
        told = []
        for name in self.names:
            for path, party in now.level_by_name[name].breaches(now.joint_by_name[name], rows[name]):
                told.append((name, path, party))
        breaks = {triple: now.breaks[triple] for triple in now.breaks}
        for triple in sorted(told):
            breaks.setdefault(triple, now.played)
        return breaks

    def put(self, name, level, joint):
        """Puts this level in this joint standing in place of the one with this name."""
        now = self.moment
        levels = {other: now.level_by_name[other] for other in self.names}
        joints = {other: now.joint_by_name[other] for other in self.names}
        levels[name] = level
        joints[name] = joint
        self.moment = Moment(now.played, levels, joints, now.place, now.breaks, now.waste)
