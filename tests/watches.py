"""What points 52 and 53 say of a cluster, checked from their words alone."""

from meridian.deals.programs import run_alone
from tests.clusters import clients_of, readers_of


class Watch:
    """Looks at a cluster after each action, and remembers what was committed or given up."""

    def __init__(self, test, cluster, programs):
        self.test = test
        self.cluster = cluster
        self.programs = programs
        self.committed = {}
        self.lost = {}
        self.seen = None

    def look(self):
        cluster = self.cluster
        guests, readers = clients_of(cluster), readers_of(cluster)
        seen = (cluster.committed(), [(guest.phase, len(guest.got())) for guest in guests + readers],
                [len(cluster.chronicle(group)) for group in range(cluster.fabric.groups)])
        if seen == self.seen:
            return
        self.seen = seen
        self.look_at_outcomes(dict(cluster.committed()))
        self.look_at_results(guests)
        deeds = self.deeds(guests, readers)
        self.look_at_reads(deeds)
        self.look_at_times(deeds)
        self.look_at_equal_times(deeds)

    def look_at_outcomes(self, committed):
        self.test.assertEqual(len(committed), len(self.cluster.committed()))
        for txn, time in self.committed.items():
            self.test.assertEqual(committed.get(txn), time)
        self.committed = committed
        for group in range(self.cluster.fabric.groups):
            for txn, time in self.cluster.state(group).all_outcomes():
                if time == 0:
                    self.lost[txn] = True
        self.test.assertEqual(set(self.lost) & set(committed), set())

    def look_at_results(self, guests):
        for guest in guests:
            if guest.result == 0:
                self.test.assertNotIn(guest.txn, self.committed)
            elif guest.result is not None:
                self.test.assertEqual(self.committed.get(guest.txn), guest.result)
                self.test.assertTrue(guest.result < self.cluster.now)

    def deeds(self, guests, readers):
        """Return (place in the time order, span, got, writes) for each deed."""
        found = []
        for index, guest in enumerate(guests):
            if guest.txn in self.committed:
                got = dict(guest.got())
                again, writes, completed = run_alone(got, self.programs[index])
                self.test.assertTrue(completed)
                self.test.assertEqual(again, guest.got())
                place = (self.committed[guest.txn], 0, guest.txn)
                found.append((place, self.cluster.span_of_client(index), guest.got(), writes))
        for index, reader in enumerate(readers):
            span = self.cluster.span_of_reader(index)
            if span[0] is not None:
                found.append(((reader.time, 1, index), span, reader.got(), ()))
        return sorted(found)

    def look_at_reads(self, deeds):
        rows = {}
        for place, _, got, writes in deeds:
            for key, value in got:
                self.test.assertEqual(rows.get(key), value, (place, key))
            rows.update(writes)

    def look_at_times(self, deeds):
        for earlier, (_, end), _, _ in deeds:
            for later, (begin, _), _, _ in deeds:
                if end is not None and end < begin:
                    self.test.assertTrue(earlier[0] < later[0], (earlier, later))

    def look_at_equal_times(self, deeds):
        touched = {}
        for (time, kind, _), _, got, writes in deeds:
            if kind == 0:
                read, written = {key for key, _ in got}, {key for key, _ in writes}
                for others_read, others_written in touched.get(time, []):
                    self.test.assertEqual(written & (others_read | others_written) | read & others_written, set())
                touched.setdefault(time, []).append((read, written))
