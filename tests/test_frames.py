"""The form of messages and packets, behind promises 2 to 4."""

import unittest

from bylabels.frames import is_message, is_packet, message_frame, message_label, packet_frame, packet_label

LABELS = ((16, 0, 16), (255, 0, 255), (256, 1, 0), (257, 1, 1), (511, 1, 255), (1039, 4, 15), (65280, 255, 0),
          (65535, 255, 255))


class Frames(unittest.TestCase):
    def test_a_message_is_five_bytes_the_labels_higher_byte_first(self):
        for number, high, low in LABELS:
            for what in (1, 2, 3):
                frame = message_frame(what, 31, number)
                self.assertEqual(frame, [0, what, 31, high, low])
                self.assertEqual(message_label(frame), number)
                self.assertTrue(is_message(frame))
                self.assertFalse(is_packet(frame))

    def test_a_packet_is_its_steps_its_label_and_its_bytes(self):
        for number, high, low in LABELS:
            for payload in ([0], [0, 1, 255], [5] * 1500):
                frame = packet_frame(63, number, payload)
                self.assertEqual(frame, [1, 63, high, low] + payload)
                self.assertEqual(packet_label(frame), number)
                self.assertTrue(is_packet(frame))
                self.assertFalse(is_message(frame))

    def test_a_packet_has_at_least_one_byte(self):
        self.assertFalse(is_packet([1, 63, 0, 16]))
        self.assertTrue(is_packet([1, 63, 0, 16, 0]))


if __name__ == "__main__":
    unittest.main()
