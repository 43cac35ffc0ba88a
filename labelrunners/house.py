"""One house of machines and jobs, and the answers to the calls about it."""

from labelrunners.placing import choose, find_rivals, place, suits_one_of

FIRST_LEASE_MINUTES = 5
FIRST_AGE = 10
MOST = 1000000
LABEL_SETS = 65536
MOST_MACHINES = 7
MOST_JOBS_HERE = 14
MOST_JOBS_IN_ALL = 40

BEGINS = 0
MACHINE = 1
JOB = 2
SERVE = 3
BEAT = 4
RESULT = 5
TICK = 6
DRAIN = 7
CANCEL = 8
WHY = 9
QUEUE = 10
MACHINES = 11

# How many numbers stand behind a call's own number, by that number.
SIZES = (2, 2, 4, 0, 1, 2, 1, 1, 1, 1, 0, 0, 0)

# How a job came to be over.
FAILED = 0
PASSED = 1
CALLED_OFF = 2

# How a machine is, as the call machines tells it.
FREE = 0
BUSY = 1
LEAVING = 2


def is_from_one_to_most(number):
    return 1 <= number <= MOST


class Machine:
    def __init__(self, number, labels, heard):
        self.number = number
        self.labels = labels
        self.heard = heard
        self.leaving = False


# A job that is here: it waits while it has no machine and no lease.
class Job:
    def __init__(self, number, labels, urgency, tries, came):
        self.number = number
        self.labels = labels
        self.urgency = urgency
        self.tries = tries
        self.came = came
        self.times_lost = 0
        self.runs_on = None
        self.lease = None

    def runs(self):
        return self.lease is not None

    def run(self, machine, lease):
        self.runs_on = machine.number
        self.lease = lease

    def wait_again(self):
        self.runs_on = None
        self.lease = None


# Each call is a method that answers a list of numbers. Refusals come first in it, in the order
# in which the document tells them, so that nothing is changed when one is answered.
class House:
    def __init__(self):
        self.make_new(FIRST_LEASE_MINUTES, FIRST_AGE)

    def make_new(self, lease_minutes, age):
        self.lease_minutes = lease_minutes
        self.age = age
        self.now = 0
        self.machines = {}
        # In the order in which they came, whatever becomes of them while they are here.
        self.jobs = []
        # How each came to be over, by its number, in the order in which they did.
        self.over = {}
        self.next_lease = 0

    def begin(self, lease_minutes, age):
        if not is_from_one_to_most(lease_minutes) or not is_from_one_to_most(age):
            return [-1]
        self.make_new(lease_minutes, age)
        return [0]

    def add_machine(self, number, labels):
        if labels >= LABEL_SETS:
            return [-1]
        if number in self.machines:
            return [-4]
        if len(self.machines) == MOST_MACHINES:
            return [-7]
        self.machines[number] = Machine(number, labels, self.now)
        return [len(self.machines)]

    def add_job(self, number, labels, urgency, tries):
        if labels >= LABEL_SETS or urgency > MOST or not is_from_one_to_most(tries):
            return [-1]
        if self.is_job_number_taken(number):
            return [-4]
        if self.is_full_of_jobs():
            return [-7]
        self.jobs.append(Job(number, labels, urgency, tries, self.now))
        return [len(self.jobs)]

    def is_job_number_taken(self, number):
        return number in self.over or self.job_here(number) is not None

    def job_here(self, number):
        for job in self.jobs:
            if job.number == number:
                return job
        return None

    def is_full_of_jobs(self):
        here = len(self.jobs)
        return here == MOST_JOBS_HERE or here + len(self.over) == MOST_JOBS_IN_ALL

    def serve(self):
        placed = self.placed_jobs()
        answer = [len(placed)]
        for job, machine in placed:
            job.run(machine, self.next_lease)
            self.next_lease += 1
            answer.extend([job.number, machine.number, job.lease])
        return answer

    # Each of the chosen jobs with its machine, in the order in which they are chosen.
    def placed_jobs(self):
        machines = self.free_machines()
        chosen = choose(self.queue(), machines)
        return list(zip(chosen, place(chosen, machines)))

    # A machine that is leaving is not here without a job that runs on it; so none of these is.
    def free_machines(self):
        return [machine for machine in self.machines_by_number() if not self.is_busy(machine)]

    def machines_by_number(self):
        return [self.machines[number] for number in sorted(self.machines)]

    def is_busy(self, machine):
        return machine.number in [job.runs_on for job in self.jobs]

    def queue(self):
        waiting = [job for job in self.jobs if not job.runs()]
        # Sorting keeps jobs that are as urgent now in the order in which they came.
        return sorted(waiting, key=lambda job: -self.urgency_now(job))

    def urgency_now(self, job):
        return job.urgency + (self.now - job.came) // self.age

    def beat(self, number):
        if number not in self.machines:
            return [-2]
        self.machines[number].heard = self.now
        return [0]

    def take_result(self, lease, passed):
        job = self.job_by_lease(lease)
        if job is None:
            return [-5]
        self.stop_job(job)
        if passed != 0:
            self.end_job(job, PASSED)
            return [1]
        if job.tries == 1:
            self.end_job(job, FAILED)
            return [0]
        job.tries -= 1
        return [2]

    def job_by_lease(self, lease):
        for job in self.jobs:
            if job.lease == lease:
                return job
        return None

    # A machine that is leaving was here for its job alone.
    def stop_job(self, job):
        machine = self.machines[job.runs_on]
        job.wait_again()
        if machine.leaving:
            self.machines.pop(machine.number)

    def end_job(self, ended, how):
        self.jobs = [job for job in self.jobs if job.number != ended.number]
        self.over[ended.number] = how

    def tick(self, minutes):
        if minutes == 0 or self.now + minutes > MOST:
            return [-1]
        self.now += minutes
        lost = [machine.number for machine in self.machines_by_number() if self.is_lost(machine)]
        jobs = [job for job in self.jobs if job.runs_on in lost]
        for number in lost:
            self.machines.pop(number)
        for job in jobs:
            job.wait_again()
            job.times_lost += 1
        return [len(lost)] + lost + [job.number for job in jobs]

    def is_lost(self, machine):
        return self.minutes_since_heard(machine) > self.lease_minutes

    def minutes_since_heard(self, machine):
        return self.now - machine.heard

    def drain(self, number):
        if number not in self.machines:
            return [-2]
        machine = self.machines[number]
        if machine.leaving:
            return [-4]
        if self.is_busy(machine):
            machine.leaving = True
        else:
            self.machines.pop(number)
        return [len(self.machines)]

    def cancel(self, number):
        job = self.job_here(number)
        if job is None:
            return [-2]
        ran = job.runs()
        if ran:
            self.stop_job(job)
        self.end_job(job, CALLED_OFF)
        return [1 if ran else 0]

    def why(self, number):
        job = self.job_here(number)
        if job is None:
            return [-2]
        if job.runs():
            return [2, job.runs_on, job.lease]
        placed = self.placed_jobs()
        for chosen, machine in placed:
            if chosen.number == number:
                return [1, machine.number]
        rivals = find_rivals(job, placed)
        suited = [machine for machine in self.free_machines() if suits_one_of(machine, [job] + rivals)]
        return [0, len(suited)] + [rival.number for rival in rivals]

    def tell_queue(self):
        queue = self.queue()
        answer = [len(queue)]
        for job in queue:
            answer.extend([job.number, self.urgency_now(job), job.tries, job.times_lost])
        return answer

    def tell_machines(self):
        answer = [len(self.machines)]
        for machine in self.machines_by_number():
            heard_ago = self.minutes_since_heard(machine)
            answer.extend([machine.number, machine.labels, heard_ago, self.state_of(machine)])
        return answer

    def state_of(self, machine):
        if machine.leaving:
            return LEAVING
        return BUSY if self.is_busy(machine) else FREE

    def tell_ends(self):
        answer = [len(self.over)]
        for number, how in self.over.items():
            answer.extend([number, how])
        return answer


def answer_call(house, call, numbers):
    if call == BEGINS:
        return house.begin(numbers[0], numbers[1])
    if call == MACHINE:
        return house.add_machine(numbers[0], numbers[1])
    if call == JOB:
        return house.add_job(numbers[0], numbers[1], numbers[2], numbers[3])
    if call == SERVE:
        return house.serve()
    if call == BEAT:
        return house.beat(numbers[0])
    if call == RESULT:
        return house.take_result(numbers[0], numbers[1])
    if call == TICK:
        return house.tick(numbers[0])
    if call == DRAIN:
        return house.drain(numbers[0])
    if call == CANCEL:
        return house.cancel(numbers[0])
    if call == WHY:
        return house.why(numbers[0])
    if call == QUEUE:
        return house.tell_queue()
    if call == MACHINES:
        return house.tell_machines()
    # SIZES has room for no other call than ends here.
    return house.tell_ends()


def answers(calls):
    house = House()
    given = []
    start = 0
    while start < len(calls):
        call = calls[start]
        end = start + 1 + SIZES[call]
        answer = answer_call(house, call, calls[start + 1:end])
        given.append(len(answer))
        given.extend(answer)
        start = end
    return given
