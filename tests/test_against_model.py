"""Many lines, each answered by the program and by a slow model that tries all there is to try."""

import unittest
from itertools import permutations

from helper import (ask, beat, begins, cancel, drain, ends, job, machine, machines, queue, result,
                    serve, tick, why)


class Model:
    def __init__(self):
        self.begins(5, 10)

    def begins(self, lease, age):
        if not (0 < lease <= 10 ** 6 and 0 < age <= 10 ** 6):
            return [-1]
        self.lasts, self.age, self.minute, self.given = lease, age, 0, 0
        self.labels, self.heard, self.told, self.over = {}, {}, {}, {}
        self.running, self.leaving = {}, set()
        return [0]

    def machine(self, number, labels):
        if labels > 65535:
            return [-1]
        if number in self.labels:
            return [-4]
        if len(self.labels) >= 7:
            return [-7]
        self.labels[number], self.heard[number] = labels, self.minute
        return [len(self.labels)]

    def job(self, number, labels, urgency, tries):
        if labels > 65535 or urgency > 10 ** 6 or not 0 < tries <= 10 ** 6:
            return [-1]
        if number in self.told:
            return [-4]
        if len(self.told) - len(self.over) >= 14 or len(self.told) >= 40:
            return [-7]
        self.told[number] = {"asks": labels, "urgency": urgency, "tries": tries,
                             "came": self.minute, "place": len(self.told), "lost": 0}
        return [len(self.told) - len(self.over)]

    def urgency(self, number):
        told = self.told[number]
        return told["urgency"] + (self.minute - told["came"]) // self.age

    def waiting(self):
        here = set(self.told) - set(self.over) - {number for number, at in self.running.values()}
        return sorted(here, key=lambda number: (-self.urgency(number), self.told[number]["place"]))

    def free(self):
        return sorted(set(self.labels) - {at for number, at in self.running.values()} - self.leaving)

    def suits(self, at, number):
        return self.told[number]["asks"] & ~self.labels[at] == 0

    def placings(self, jobs):
        """All ways to serve the jobs together, the one with the lowest machines first."""
        for places in permutations(self.free(), len(jobs)):
            if all(self.suits(at, number) for number, at in zip(jobs, places)):
                yield places

    def together(self, jobs):
        return any(True for places in self.placings(jobs))

    def chosen(self):
        jobs = []
        for number in self.waiting():
            if self.together(jobs + [number]):
                jobs.append(number)
        return jobs

    def serve(self):
        chosen = self.chosen()
        answer = [len(chosen)]
        for number, at in zip(chosen, next(self.placings(chosen))):
            self.running[self.given] = (number, at)
            answer += [number, at, self.given]
            self.given += 1
        return answer

    def beat(self, number):
        if number not in self.labels:
            return [-2]
        self.heard[number] = self.minute
        return [0]

    def result(self, lease, passed):
        if lease not in self.running:
            return [-5]
        number = self.running.pop(lease)[0]
        self.see_off()
        if passed:
            self.over[number] = 1
            return [1]
        self.told[number]["tries"] -= 1
        if self.told[number]["tries"] == 0:
            self.over[number] = 0
            return [0]
        return [2]

    def see_off(self):
        for at in self.leaving - {at for number, at in self.running.values()}:
            self.remove(at)

    def remove(self, at):
        del self.labels[at], self.heard[at]
        self.leaving.discard(at)

    def tick(self, minutes):
        if not 0 < minutes <= 10 ** 6 - self.minute:
            return [-1]
        self.minute += minutes
        lost = sorted(at for at in self.labels if self.minute > self.heard[at] + self.lasts)
        leases = [lease for lease in self.running if self.running[lease][1] in lost]
        jobs = [self.running.pop(lease)[0] for lease in leases]
        for at in lost:
            self.remove(at)
        for number in jobs:
            self.told[number]["lost"] += 1
        return [len(lost)] + lost + sorted(jobs, key=lambda number: self.told[number]["place"])

    def drain(self, at):
        if at not in self.labels:
            return [-2]
        if at in self.leaving:
            return [-4]
        self.leaving.add(at)
        self.see_off()
        return [len(self.labels)]

    def cancel(self, number):
        if number not in self.told or number in self.over:
            return [-2]
        leases = [lease for lease in self.running if self.running[lease][0] == number]
        for lease in leases:
            del self.running[lease]
        self.see_off()
        self.over[number] = 2
        return [len(leases)]

    def why(self, number):
        if number not in self.told or number in self.over:
            return [-2]
        for lease, (runner, at) in self.running.items():
            if runner == number:
                return [2, at, lease]
        chosen = self.chosen()
        if number in chosen:
            return [1, next(self.placings(chosen))[chosen.index(number)]]
        # The rivals are also those of the chosen each of which, if it weren't there, would leave
        # room for the job; and just as many free machines suit them or the job.
        rivals = [rival for rival in chosen
                  if self.together([other for other in chosen if other != rival] + [number])]
        suited = [at for at in self.free()
                  if any(self.suits(at, one) for one in rivals + [number])]
        return [0, len(suited)] + rivals

    def queue(self):
        waiting = self.waiting()
        return [len(waiting)] + [part for number in waiting for part in (
            number, self.urgency(number), self.told[number]["tries"], self.told[number]["lost"])]

    def machines(self):
        def how(at):
            return 2 if at in self.leaving else 0 if at in self.free() else 1

        return [len(self.labels)] + [part for at in sorted(self.labels) for part in (
            at, self.labels[at], self.minute - self.heard[at], how(at))]

    def ends(self):
        return [len(self.over)] + [part for number in self.over for part in (number, self.over[number])]

    def answer(self, call):
        names = ("begins", "machine", "job", "serve", "beat", "result", "tick", "drain", "cancel",
                 "why", "queue", "machines", "ends")
        return getattr(self, names[call[0]])(*call[1:])


class Draws:
    """Numbers that look drawn by lot, but are the same in each run."""

    def __init__(self, seed):
        self.state = seed

    def below(self, end):
        self.state = (self.state * 6364136223846793005 + 1442695040888963407) % 2 ** 64
        return (self.state >> 33) % end

    def one_of(self, choices):
        return choices[self.below(len(choices))]


def drawn_call(draws, leases):
    kind = draws.below(60)
    if kind == 0:
        return begins(draws.one_of((0, 1, 3, 8, 1000000, 1000001)), draws.one_of((0, 1, 2, 7)))
    if kind < 10:
        return machine(draws.below(9), draws.one_of((draws.below(16), draws.below(16), 65536)))
    if kind < 24:
        return job(draws.below(30), draws.one_of((1, 2, 4, 8, 3, 5, 6, 9, 0, 65536)),
                   draws.below(4), draws.below(4))
    if kind < 28:
        return serve()
    if kind < 31:
        return beat(draws.below(9))
    if kind < 36:
        return result(draws.below(leases + 1), draws.below(3))
    if kind < 40:
        return tick(draws.one_of((0, 1, 1, 2, 3, 4, 1000000)))
    if kind < 44:
        return drain(draws.below(9))
    if kind < 47:
        return cancel(draws.below(30))
    if kind < 54:
        return why(draws.below(30))
    return draws.one_of((queue(), machines(), ends()))


class AgainstModel(unittest.TestCase):
    def test_lines_of_60_calls(self):
        for seed in range(1000):
            draws = Draws(seed)
            model = Model()
            calls = []
            due = []
            for k in range(60):
                calls.append(drawn_call(draws, model.given))
                due.append(model.answer(calls[-1]))
            self.assertEqual(ask(*calls), due, f"line {seed}: {calls}")

    def test_one_serve_of_many_jobs(self):
        for seed in range(400):
            draws = Draws(1000 + seed)
            calls = [machine(draws.below(1000), draws.below(32)) for k in range(6)]
            calls += [job(k, draws.one_of((1, 2, 4, 8, 16, 3, 0)), draws.below(3)) for k in range(10)]
            calls += [why(k) for k in range(10)] + [serve()]
            model = Model()
            due = [model.answer(call) for call in calls]
            self.assertEqual(ask(*calls), due, f"line {seed}: {calls}")


if __name__ == "__main__":
    unittest.main()
