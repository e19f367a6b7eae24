import ast
import contextlib
import io
import pathlib
import unittest
from unittest import mock

from document import MOST, block_by_the_document, few_letters, frame_by_the_document
from shorttexts import blocks

PACKAGE = pathlib.Path(blocks.__file__).parent


class Watched(list):
    """A list that tells of every change, even of one that is taken back."""

    def refuse(self, *told):
        raise AssertionError("what was handed in was changed")

    __setitem__ = __delitem__ = __iadd__ = __imul__ = refuse
    append = extend = insert = pop = remove = clear = sort = reverse = refuse


def some_texts():
    return [[], [1], list(range(40)), [0] * 500, few_letters(700, 2), few_letters(66000, 256)]


def calls_of_pack():
    return [("pack", flags, most, text) for text in some_texts() for flags, most in (
        (0, MOST), (5, MOST), (10, MOST), (15, MOST), (15, 3), (16, MOST), (0, -1))]


def calls_of_unpack():
    frames = [frame_by_the_document(flags, text) for text in some_texts() for flags in (0, 7, 8, 15)]
    frames += [frame[:-1] for frame in frames] + [[], [4, 34, 77, 24, 96, 64, 131]]
    return [("unpack", most, frame) for frame in frames for most in (MOST, 3, -1)]


def calls_of_pack_block():
    return [("pack_block", most, text) for text in some_texts() for most in (MOST, 3, 0, -1)]


def calls_of_unpack_block():
    made = [[0], [0x10, 4], [0x2F, 1, 2, 1, 0, 255, 7, 0x10, 9], [0x10, 1, 2, 0, 0], [0x10], []]
    made += [block_by_the_document(text) for text in some_texts()]
    return [("unpack_block", most, block) for block in made for most in (MOST, 3, 0, -1)]


def all_calls():
    return calls_of_pack() + calls_of_unpack() + calls_of_pack_block() + calls_of_unpack_block()


def answer_of(call):
    return getattr(blocks, call[0])(*call[1:])


class Calls(unittest.TestCase):
    def test_what_is_handed_in_is_not_changed(self):
        for call in all_calls():
            handed = call[-1]
            kept = list(handed)
            answer_of(call)
            self.assertIs(call[-1], handed)
            self.assertEqual(handed, kept)

    def test_what_is_handed_in_is_not_changed_for_a_while_either(self):
        for call in all_calls():
            self.assertEqual(answer_of(call[:-1] + (Watched(call[-1]),)), answer_of(call))

    def test_what_is_given_back_is_the_caller_s_own(self):
        for call in all_calls():
            kept = list(call[-1])
            answer = answer_of(call)
            same = list(answer)
            answer.append(1)
            answer[0] = 99
            self.assertEqual(call[-1], kept)
            self.assertEqual(answer_of(call), same)

    def test_the_same_call_twice_gives_the_same_answer(self):
        calls = all_calls()
        self.assertEqual([answer_of(call) for call in calls], [answer_of(call) for call in calls])

    def test_a_changed_list_gives_another_answer(self):
        text = [0] * 300
        for byte in (0, 1, 2):
            text[200] = byte
            self.assertEqual(blocks.pack(15, MOST, text)[1:], frame_by_the_document(15, text))
        frame = frame_by_the_document(0, [1, 2, 3])
        for byte in (1, 5, 6):
            frame[-7] = byte
            self.assertEqual(blocks.unpack(MOST, frame), [3, byte, 2, 3])

    def test_a_list_of_whole_numbers_is_given_back(self):
        for call in all_calls():
            answer = answer_of(call)
            self.assertIs(type(answer), list)
            self.assertEqual({type(number) for number in answer}, {int})
            if answer[0] < 0:
                self.assertEqual(len(answer), 1)
            else:
                self.assertEqual(answer[0], len(answer) - 1)
                self.assertTrue(all(0 <= number <= 255 for number in answer[1:]))

    def test_the_arguments_are_called_as_told(self):
        self.assertEqual(blocks.pack(flags=0, most=MOST, text=[]), blocks.pack(0, MOST, []))
        self.assertEqual(blocks.unpack(most=MOST, frame=[]), blocks.unpack(MOST, []))
        self.assertEqual(blocks.pack_block(most=MOST, text=[]), blocks.pack_block(MOST, []))
        self.assertEqual(blocks.unpack_block(most=MOST, block=[0]), blocks.unpack_block(MOST, [0]))

    def test_nothing_is_printed_read_or_imported(self):
        out = io.StringIO()
        refused = AssertionError("not asked for")
        calls = all_calls()
        with contextlib.redirect_stdout(out), contextlib.redirect_stderr(out), \
                mock.patch("builtins.open", side_effect=refused), \
                mock.patch("builtins.input", side_effect=refused), \
                mock.patch("builtins.__import__", side_effect=refused):
            for call in calls:
                answer_of(call)
        self.assertEqual(out.getvalue(), "")


class Form(unittest.TestCase):
    def test_only_the_package_s_own_is_imported(self):
        for path in PACKAGE.glob("*.py"):
            for node in ast.walk(ast.parse(path.read_text())):
                self.assertNotIsInstance(node, ast.Import)
                if isinstance(node, ast.ImportFrom):
                    self.assertEqual(node.module.split(".")[0], "shorttexts")

    def test_sizes_and_signs(self):
        for path in PACKAGE.glob("*.py"):
            source = path.read_text()
            self.assertLessEqual({*source}, {"\n"} | {chr(sign) for sign in range(32, 127)})
            rows = source.split("\n")
            self.assertLessEqual(len(rows), 400)
            self.assertLessEqual(max(map(len, rows)), 120)
            for node in ast.walk(ast.parse(source)):
                if isinstance(node, ast.FunctionDef):
                    self.assertLessEqual(node.end_lineno - node.lineno + 1, 40, node.name)


if __name__ == "__main__":
    unittest.main()
