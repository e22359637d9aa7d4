from tests.support import WindowCase, full_content, move


class MoveTest(WindowCase):
    def assert_moved(self, source, to, n):
        before = full_content()
        held = before[64 * source:64 * (source + n)]
        after = before[:64 * to] + held + before[64 * (to + n):]
        self.assert_done(move(source, to, n), before, after)

    def test_apart(self):
        for source, to, n in ((0, 63, 1), (63, 0, 1), (2, 10, 5), (40, 3, 20), (0, 32, 32), (32, 0, 32)):
            self.assert_moved(source, to, n)

    def test_overlapping_upwards(self):
        for source, to, n in ((0, 1, 63), (0, 1, 2), (10, 13, 8), (5, 6, 10)):
            self.assert_moved(source, to, n)

    def test_overlapping_downwards(self):
        for source, to, n in ((1, 0, 63), (1, 0, 2), (13, 10, 8), (6, 5, 10)):
            self.assert_moved(source, to, n)

    def test_onto_itself(self):
        for source, n in ((0, 64), (7, 3), (63, 1), (0, 0)):
            self.assert_moved(source, source, n)

    def test_no_slot_changes_nothing(self):
        for source, to in ((0, 5), (5, 0), (64, 0), (0, 64), (64, 64)):
            self.assert_moved(source, to, 0)

    def test_refused_n_below_0(self):
        for n in (-1, -64, -2147483648):
            for source, to in ((0, 0), (3, 9), (64, 64), (100, 100), (4294967295, 4294967295)):
                self.assert_refused(move(source, to, n))

    def test_refused_past_the_slots(self):
        for slot, n in ((0, 65), (1, 64), (63, 2), (64, 1), (65, 0), (0, 2147483647),
                        (4294967295, 0), (4294967295, 1), (4294967295, 2147483647)):
            self.assert_refused(move(slot, 0, n))
            self.assert_refused(move(0, slot, n))
            self.assert_refused(move(slot, slot, n))
