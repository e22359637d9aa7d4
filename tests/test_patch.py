from tests.support import DONE, WindowCase, begin, content_of, full_content, message_of, patch
from watchedwindow.slots import Window, answers_in


class PatchTest(WindowCase):
    def assert_patched(self, slot, off, given):
        before = full_content()
        after = list(before)
        start = 64 * slot + off
        after[start:start + len(given)] = given
        self.assert_done(patch(slot, off, given), before, after)

    def test_bytes_of_the_slot(self):
        for slot in (0, 1, 40, 63):
            self.assert_patched(slot, 10, [0, 255, 3])

    def test_first_and_last_byte(self):
        for slot in (0, 63):
            self.assert_patched(slot, 0, [0])
            self.assert_patched(slot, 63, [0])

    def test_the_whole_slot(self):
        for slot in (0, 7, 63):
            self.assert_patched(slot, 0, message_of(9))

    def test_up_to_the_end(self):
        for length in (1, 2, 32, 63, 64):
            self.assert_patched(5, 64 - length, message_of(2)[:length])

    def test_no_byte_changes_nothing(self):
        for off in (0, 1, 63, 64):
            for slot in (0, 63):
                self.assert_patched(slot, off, [])

    def test_patches_add_up(self):
        window = Window()
        answers_in(window, begin())
        calls = patch(1, 0, [1] * 8) + patch(1, 4, [2] * 8)
        self.assertEqual(answers_in(window, calls), DONE + DONE)
        wanted = [0] * 4160
        wanted[64:76] = [1] * 4 + [2] * 8
        self.assert_content(content_of(window), wanted)

    def test_refused_slots(self):
        for slot in (64, 65, 4294967295):
            self.assert_refused(patch(slot, 0, [1]))
            self.assert_refused(patch(slot, 0, []))
            self.assert_refused(patch(slot, 0, message_of(1)))

    def test_refused_past_the_slot(self):
        for slot in (0, 62, 63):
            for length in (0, 1, 2, 63, 64):
                self.assert_refused(patch(slot, 65 - length, message_of(1)[:length]))
            self.assert_refused(patch(slot, 64, message_of(1)))
            self.assert_refused(patch(slot, 4294967295, [1]))
            self.assert_refused(patch(slot, 4294967295, []))
