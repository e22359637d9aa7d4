"""A device that looks at every step of a call and must never find half an order."""
import sys

from tests.support import WindowCase, bell, fill, full_content, message_of, move, patch, send, swap, take, told
from watchedwindow.slots import answers_in


class WatchingTest(WindowCase):
    def looks_during(self, window, call):
        looks = []

        def look(frame, event, argument):
            looks.append((list(window.slots), window.bell))
            return look

        before = sys.gettrace()
        sys.settrace(look)
        try:
            answers_in(window, call)
        finally:
            sys.settrace(before)
        looks.append((list(window.slots), window.bell))
        return looks

    def test_each_slot_is_the_old_one_or_the_new_one(self):
        for call in (send(9, message_of(1)), patch(9, 3, [0] * 50), fill(3, 20, 5, 7),
                     move(3, 5, 20), move(5, 3, 20), send(64, message_of(1)), swap(3, 9), swap(9, 64),
                     take(9), take(64), bell(9), told()):
            looks = self.looks_during(self.window_with(full_content()), call)
            self.assertGreater(len(looks), 5)
            first, last = looks[0][0], looks[-1][0]
            for slots, rung in looks:
                for old, new, found in zip(first, last, slots, strict=True):
                    self.assertIn(found, (old, new))

    def test_the_bell_rings_when_the_message_is_there(self):
        looks = self.looks_during(self.window_with([0] * 4160), send(9, message_of(1)))
        after = [slots for slots, rung in looks if rung == 10]
        self.assertTrue(after)
        for slots in after:
            self.assertEqual(list(slots[9]), message_of(1))
