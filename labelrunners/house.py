"""One house of machines and jobs, and the answers to the calls about it."""

from labelrunners.placing import choose, place

FIRST_LEASE_MINUTES = 5
FIRST_AGE = 10
MOST = 1000000
LABEL_SETS = 65536
MOST_MACHINES = 7
MOST_JOBS_HERE = 14
MOST_JOBS_IN_ALL = 40

BEGINS = 0
MACHINE = 1
JOB = 2
SERVE = 3
BEAT = 4
RESULT = 5

# How many numbers stand behind a call's own number, by that number.
SIZES = (2, 2, 4, 0, 1, 2, 1)


def is_from_one_to_most(number):
    return 1 <= number <= MOST


class Machine:
    def __init__(self, number, labels, heard):
        self.number = number
        self.labels = labels
        self.heard = heard


# A job that is here: it waits while it has no machine and no lease.
class Job:
    def __init__(self, number, labels, urgency, tries, came):
        self.number = number
        self.labels = labels
        self.urgency = urgency
        self.tries = tries
        self.came = came
        self.times_lost = 0
        self.runs_on = None
        self.lease = None

    def run(self, machine, lease):
        self.runs_on = machine.number
        self.lease = lease

    def wait_again(self):
        self.runs_on = None
        self.lease = None


# Each call is a method that answers a list of numbers. Refusals come first in it, in the order
# in which the document tells them, so that nothing is changed when one is answered.
class House:
    def __init__(self):
        self.make_new(FIRST_LEASE_MINUTES, FIRST_AGE)

    def make_new(self, lease_minutes, age):
        self.lease_minutes = lease_minutes
        self.age = age
        self.now = 0
        self.machines = {}
        # In the order in which they came, whatever becomes of them while they are here.
        self.jobs = []
        self.numbers_over = []
        self.next_lease = 0

    def begin(self, lease_minutes, age):
        if not is_from_one_to_most(lease_minutes) or not is_from_one_to_most(age):
            return [-1]
        self.make_new(lease_minutes, age)
        return [0]

    def add_machine(self, number, labels):
        if labels >= LABEL_SETS:
            return [-1]
        if number in self.machines:
            return [-4]
        if len(self.machines) == MOST_MACHINES:
            return [-7]
        self.machines[number] = Machine(number, labels, self.now)
        return [len(self.machines)]

    def add_job(self, number, labels, urgency, tries):
        if labels >= LABEL_SETS or urgency > MOST or not is_from_one_to_most(tries):
            return [-1]
        if self.is_job_number_taken(number):
            return [-4]
        if self.is_full_of_jobs():
            return [-7]
        self.jobs.append(Job(number, labels, urgency, tries, self.now))
        return [len(self.jobs)]

    def is_job_number_taken(self, number):
        return number in self.numbers_over or number in [job.number for job in self.jobs]

    def is_full_of_jobs(self):
        here = len(self.jobs)
        return here == MOST_JOBS_HERE or here + len(self.numbers_over) == MOST_JOBS_IN_ALL

    def serve(self):
        machines = self.free_machines()
        chosen = choose(self.queue(), machines)
        answer = [len(chosen)]
        for job, machine in zip(chosen, place(chosen, machines)):
            job.run(machine, self.next_lease)
            self.next_lease += 1
            answer.extend([job.number, machine.number, job.lease])
        return answer

    def free_machines(self):
        busy = [job.runs_on for job in self.jobs]
        return [self.machines[number] for number in sorted(self.machines) if number not in busy]

    def queue(self):
        waiting = [job for job in self.jobs if job.lease is None]
        # Sorting keeps jobs that are as urgent now in the order in which they came.
        return sorted(waiting, key=lambda job: -self.urgency_now(job))

    def urgency_now(self, job):
        return job.urgency + (self.now - job.came) // self.age

    def beat(self, number):
        if number not in self.machines:
            return [-2]
        self.machines[number].heard = self.now
        return [0]

    def take_result(self, lease, passed):
        job = self.job_by_lease(lease)
        if job is None:
            return [-5]
        if passed != 0:
            self.end_job(job)
            return [1]
        if job.tries == 1:
            self.end_job(job)
            return [0]
        job.tries -= 1
        job.wait_again()
        return [2]

    def job_by_lease(self, lease):
        for job in self.jobs:
            if job.lease == lease:
                return job
        return None

    def end_job(self, ended):
        self.jobs = [job for job in self.jobs if job.number != ended.number]
        self.numbers_over.append(ended.number)

    def tick(self, minutes):
        if minutes == 0 or self.now + minutes > MOST:
            return [-1]
        self.now += minutes
        lost = [number for number in sorted(self.machines) if self.is_lost(self.machines[number])]
        jobs = [job for job in self.jobs if job.runs_on in lost]
        for number in lost:
            self.machines.pop(number)
        for job in jobs:
            job.wait_again()
            job.times_lost += 1
        return [len(lost)] + lost + [job.number for job in jobs]

    def is_lost(self, machine):
        return self.now - machine.heard > self.lease_minutes


def answer_call(house, call, numbers):
    if call == BEGINS:
        return house.begin(numbers[0], numbers[1])
    if call == MACHINE:
        return house.add_machine(numbers[0], numbers[1])
    if call == JOB:
        return house.add_job(numbers[0], numbers[1], numbers[2], numbers[3])
    if call == SERVE:
        return house.serve()
    if call == BEAT:
        return house.beat(numbers[0])
    if call == RESULT:
        return house.take_result(numbers[0], numbers[1])
    # SIZES has room for no other call than tick here.
    return house.tick(numbers[0])


def answers(calls):
    house = House()
    given = []
    start = 0
    while start < len(calls):
        call = calls[start]
        end = start + 1 + SIZES[call]
        answer = answer_call(house, call, calls[start + 1:end])
        given.append(len(answer))
        given.extend(answer)
        start = end
    return given
