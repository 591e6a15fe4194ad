"""What the tests of read and write have in common."""
import signal
import unittest

from bobbintexts.lace import read, write


def text_of(*lines):
    """Lines as one text, each with a line feed behind it."""
    return "".join(line + "\n" for line in lines)


def bytes_of(text):
    """A text as the list that read takes: each sign a byte."""
    return list(text.encode("latin-1"))


class LaceCase(unittest.TestCase):
    # How long a test may take.
    seconds = 60

    def setUp(self):
        # A text that is worked step by step where it need not be would go on for ever: it is to fail.
        signal.signal(signal.SIGALRM, self.stop)
        signal.alarm(self.seconds)
        self.addCleanup(signal.alarm, 0)

    def stop(self, *_):
        raise AssertionError("no answer came")

    def assertMeans(self, lines, pairs, acts):
        self.assertEqual(read(bytes_of(text_of(*lines))), [0, pairs, *acts])

    def assertFault(self, lines, kind, line):
        self.assertEqual(read(bytes_of(text_of(*lines))), [-5, kind, line])

    def assertLineFault(self, line, kind, before=("pairs 4", "let a = c t")):
        """A line behind others that have no fault has this kind."""
        with self.subTest(line=line):
            self.assertFault([*before, line], kind, len(before))

    def assertLineFits(self, line, acts, before=("pairs 4", "let a = c t")):
        """A line behind others that work nothing works these acts."""
        with self.subTest(line=line):
            self.assertMeans([*before, line], int(before[0].split()[1]), acts)

    def assertWrites(self, pairs, acts, lines):
        """A working is written as these lines."""
        self.assertEqual(write(pairs, list(acts)), [0, *bytes_of(text_of(*lines))])
