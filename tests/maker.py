"""Makes random right plans, and the code that they mean."""

from trireme.needs import loop_needs, needs


class Maker:
    """Makes right plans, judged by the words of points 15 and 16 alone."""

    def __init__(self, source, told):
        self.source = source
        self.told = told

    def slot(self, instruction):
        slots = [k for k, kinds in enumerate(self.told[1]) if instruction[0] in kinds]
        return self.source.choice(slots)

    def schedule(self, block):
        schedule, wanted = [], needs(self.told, block)
        for k, instruction in enumerate(block):
            waits = [schedule[a][0] + w for a, b, w, _ in wanted if b == k]
            cycle = max([0] + waits) + self.source.choice((0, 0, 0, 1, 2, 5))
            place = (cycle, self.slot(instruction))
            while place in schedule:
                place = (place[0] + 1, self.slot(instruction))
            schedule.append(place)
        return tuple(schedule)

    def pipeline(self, body):
        interval = self.source.choice((1, 1, 2, 4))
        while True:
            for _ in range(5):
                schedule = self.try_interval(body, interval)
                if schedule is not None:
                    return interval, schedule
            interval += 1

    def try_interval(self, body, interval):
        wanted = loop_needs(self.told, body)
        places = [[self.source.randrange(4), self.slot(item)] for item in body]
        for _ in range(40 * len(body) + 1):
            late = [
                (a, b, w - d * interval) for a, b, w, d in wanted
                if places[b][0] + d * interval < places[a][0] + w
            ]
            if any(a == b for a, b, _ in late):
                return None
            if late:
                a, b, w = late[0]
                places[b][0] = places[a][0] + w
                continue
            taken = [(cycle % interval, slot) for cycle, slot in places]
            twice = [k for k, place in enumerate(taken) if taken.count(place) > 1]
            if not twice:
                return tuple((cycle, slot) for cycle, slot in places)
            k = self.source.choice(twice)
            places[k] = [places[k][0] + self.source.randrange(2), self.slot(body[k])]
        return None

    def words(self, many, places, block):
        rows = [[None] * len(self.told[1]) for _ in range(many)]
        for (cycle, slot), item in zip(places, block):
            rows[cycle][slot] = item
        return tuple(tuple(row) for row in rows)

    def segment(self, block, schedule):
        length = max([cycle + 1 for cycle, _ in schedule], default=0)
        return ("words", self.words(length, schedule, block))

    def kernel(self, n, body, interval, schedule):
        folded = [(cycle % interval, slot) for cycle, slot in schedule]
        stages = [cycle // interval for cycle, _ in schedule]
        return (
            "kernel", n, self.words(interval, folded, body), self.words(interval, folded, stages),
        )
