from tests.support import (BELL, COUNT, DONE, WindowCase, begin, full_content, low_first,
                           message_of, send)
from watchedwindow.slots import Window, answers_in


class SendTest(WindowCase):
    def test_slot_count_and_bell(self):
        for slot in (0, 1, 31, 62, 63):
            before = full_content()
            after = list(before)
            after[64 * slot:64 * slot + 64] = message_of(slot)
            count = int.from_bytes(before[4104:4112], "little") + 1
            after[4096:4104] = low_first(slot + 1)
            after[4104:4112] = low_first(count)
            self.assert_done(send(slot, message_of(slot)), before, after)

    def test_each_send_counts_and_the_last_one_rings(self):
        window = Window()
        answers_in(window, begin())
        for k, slot in enumerate((5, 63, 0, 5, 5)):
            self.assertEqual(answers_in(window, send(slot, message_of(k))), DONE)
            self.assertEqual(list(window.slots[slot]), message_of(k))
            self.assertEqual(window.count, k + 1)
            self.assertEqual(window.bell, slot + 1)
        self.assertEqual(list(window.slots[63]), message_of(1))

    def test_the_count_goes_from_its_top_to_0(self):
        before = [0] * 4160
        for place in COUNT:
            before[place] = 255
        after = [0] * 4160
        after[128:192] = message_of(1)
        after[BELL[0]] = 3
        self.assert_done(send(2, message_of(1)), before, after)

    def test_the_count_carries_over_its_bytes(self):
        before = [0] * 4160
        before[4104], before[4105] = 255, 255
        after = [0] * 4160
        after[4106], after[4096] = 1, 1
        self.assert_done(send(0, [0] * 64), before, after)

    def test_the_bell_is_written_whole(self):
        before = [0] * 4160
        for place in BELL:
            before[place] = 255
        after = [0] * 4160
        after[4096], after[4104] = 64, 1
        self.assert_done(send(63, [0] * 64), before, after)

    def test_refused_slots(self):
        for slot in (64, 65, 4096, 2 ** 31, 4294967295):
            self.assert_refused(send(slot, message_of(3)))
