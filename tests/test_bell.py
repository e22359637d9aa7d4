from tests.support import DONE, TOP, WindowCase, begin, bell, full_content, low_first, message_of, send, told
from watchedwindow.slots import answers


class BellTest(WindowCase):
    def test_the_bell_gets_the_value(self):
        for value in (0, 1, 64, 255, 256, 65535, 2 ** 32, 2 ** 63, 0x0102030405060708, TOP - 1):
            for before in ([0] * 4160, full_content(), [255] * 4160):
                self.assert_done(bell(value), before, before[:4096] + low_first(value) + before[4104:])

    def test_bytes_written_out(self):
        for value, told_of in ((0, [1, 0]), (255, [3, 1, 4096, 255]), (256, [3, 1, 4097, 1]),
                               (2 ** 63, [3, 1, 4103, 128]), (258, [5, 2, 4096, 2, 4097, 1]),
                               (TOP - 1, [17, 8] + [n for place in range(4096, 4104) for n in (place, 255)])):
            self.assertEqual(answers(begin() + bell(value) + told()), DONE + DONE + told_of)

    def test_the_last_one_counts(self):
        calls = begin() + bell(TOP - 1) + bell(7) + told()
        self.assertEqual(answers(calls), DONE * 3 + [3, 1, 4096, 7])

    def test_bell_over_send_and_send_over_bell(self):
        empty = [0] * 64
        self.assertEqual(answers(begin() + send(4, empty) + bell(600) + told()),
                         DONE * 3 + [7, 3, 4096, 88, 4097, 2, 4104, 1])
        self.assertEqual(answers(begin() + bell(600) + send(4, empty) + told()),
                         DONE * 3 + [5, 2, 4096, 5, 4104, 1])

    def test_a_value_that_names_no_slot_is_not_refused(self):
        self.assertEqual(answers(begin() + bell(65) + send(64, message_of(1)) + told()),
                         DONE * 2 + [1, -1] + [3, 1, 4096, 65])
