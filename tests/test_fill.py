from tests.support import TOP, WindowCase, fill, full_content, low_first


class FillTest(WindowCase):
    def assert_filled(self, slot, n, x, step):
        before = full_content()
        words = []
        for k in range(8 * n):
            words += low_first((x + step * k) % TOP)
        after = before[:64 * slot] + words + before[64 * (slot + n):]
        self.assert_done(fill(slot, n, x, step), before, after)

    def test_words_written_out(self):
        after = [0] * 4160
        for k in range(16):
            after[128 + 8 * k] = (10 + 3 * k) % 256
        self.assert_done(fill(2, 2, 10, 3), [0] * 4160, after)

    def test_the_lowest_byte_comes_first(self):
        after = [0] * 4160
        after[64:128] = [8, 7, 6, 5, 4, 3, 2, 1] * 8
        self.assert_done(fill(1, 1, 0x0102030405060708, 0), [0] * 4160, after)

    def test_slots_from_either_end(self):
        for slot, n in ((0, 1), (0, 3), (63, 1), (60, 4), (20, 30)):
            self.assert_filled(slot, n, 1000, 77)

    def test_all_slots(self):
        self.assert_filled(0, 64, 5, 2 ** 40 + 1)

    def test_0_over_what_was_there(self):
        self.assert_filled(10, 2, 0, 0)

    def test_past_the_top_of_a_word(self):
        for x, step in ((TOP - 1, 1), (TOP - 1, TOP - 1), (0, TOP - 1), (TOP - 3, 2),
                        (2 ** 63, 2 ** 63), (1, 2 ** 61)):
            self.assert_filled(3, 4, x, step)
            self.assert_filled(0, 64, x, step)

    def test_no_slot_changes_nothing(self):
        for slot in (0, 1, 63, 64):
            self.assert_filled(slot, 0, 9, 9)

    def test_refused_n_below_0(self):
        for n in (-1, -2, -64, -2147483648):
            for slot in (0, 5, 63, 64, 100, 4294967295):
                self.assert_refused(fill(slot, n, 1, 1))

    def test_refused_past_the_slots(self):
        for slot, n in ((0, 65), (1, 64), (63, 2), (64, 1), (65, 0), (0, 2147483647),
                        (4294967295, 0), (4294967295, 1), (4294967295, 2147483647)):
            self.assert_refused(fill(slot, n, 1, 1))
