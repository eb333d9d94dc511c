"""A works: jobs with their things and benches, deeds that are done and undone, and lines that are answered."""

from stucklots.answers import answer_to
from stucklots.deeds import check_deeds, check_job, check_journal, is_job, jobs_behind
from stucklots.errors import NothingLeft


class Works:
    """Up to 6 jobs by their names, each with a thing and a bench, and the history of what was done."""

    MOST = 6

    def __init__(self):
        # A job is its bench, which is a state and knows its thing. The dict is never changed, but replaced.
        self._jobs = {}
        self._past = []
        self._future = []
        self._journal = []
        self._log = []
        self._busy = False

    @property
    def many(self):
        """The number of jobs."""
        return len(self._jobs)

    @property
    def busy(self):
        """Whether deeds are being done."""
        return self._busy

    def do(self, *deeds):
        """Does all deeds, or none if an error is raised."""
        jobs = self._jobs_behind(deeds)
        if deeds:
            self._past.append(self._jobs)
            self._future = []
            self._jobs = jobs
            self._journal.append(("do", deeds))

    def tried(self, *deeds):
        """The ascending list of the names of the jobs that there would be behind deeds."""
        return sorted(self._jobs_behind(deeds))

    def _jobs_behind(self, deeds):
        """The jobs behind some deeds; raises the first error."""
        check_deeds(deeds)
        self._busy = True
        try:
            jobs = self._jobs
            for deed in deeds:
                jobs = jobs_behind(jobs, deed, Works.MOST)
            return jobs
        finally:
            self._busy = False

    def undo(self):
        """Takes the last step back; raises NothingLeft()."""
        if not self._past:
            raise NothingLeft()
        self._future.append(self._jobs)
        self._jobs = self._past.pop()
        self._journal.append(("undo",))

    def redo(self):
        """Does the last step again that was taken back; raises NothingLeft()."""
        if not self._future:
            raise NothingLeft()
        self._past.append(self._jobs)
        self._jobs = self._future.pop()
        self._journal.append(("redo",))

    def history(self):
        """The pair of the numbers of steps that can be undone and redone."""
        return (len(self._past), len(self._future))

    def names(self):
        """The ascending list of the names of the jobs."""
        return sorted(self._jobs)

    def thing_of(self, name):
        """The thing of a job."""
        return self.bench(name).thing

    def bench(self, name):
        """The bench of a job."""
        check_job(self._jobs, name)
        return self._jobs[name]

    def __contains__(self, name):
        return is_job(self._jobs, name)

    def say(self, line):
        """The answer to a line."""
        answer = answer_to(self, line)
        self._log.append((line, answer))
        return answer

    def __call__(self, line):
        return self.say(line)

    def log(self):
        """The list of the pairs of a line and its answer."""
        return list(self._log)

    def journal(self):
        """The list of what was called and not refused."""
        return list(self._journal)

    @classmethod
    def played(cls, journal):
        """The works to which a journal leads."""
        check_journal(journal)
        works = cls()
        for call in journal:
            if call[0] == "do":
                deeds = call[1]
                works.do(*deeds)
            elif call[0] == "undo":
                works.undo()
            else:
                works.redo()
        return works

    def twin(self):
        """An independent works in the same state."""
        works = Works()
        works._jobs = self._jobs
        works._past = list(self._past)
        works._future = list(self._future)
        works._journal = list(self._journal)
        works._log = list(self._log)
        return works

    def __eq__(self, other):
        return isinstance(other, Works) and self._jobs == other._jobs

    def __len__(self):
        return len(self._jobs)

    def __bool__(self):
        # Without this, a works without jobs would be false, as its length is 0.
        return True

    def __repr__(self):
        return f"Works({len(self._jobs)} jobs)"
