import contextlib
import importlib
import io
import random
import sys
import unittest
from unittest import mock

from document import MOST, block_by_the_document, bytes_of, few_letters, frame_by_the_document, xxhash
from shorttexts import blocks


class Watched(list):
    """A list that tells of every change, even of one that is taken back."""

    def refuse(self, *told):
        raise AssertionError("what was handed in was changed")

    __setitem__ = __delitem__ = __iadd__ = __imul__ = refuse
    append = extend = insert = pop = remove = clear = sort = reverse = refuse


def some_texts():
    return [[], [1], list(range(40)), [0] * 500, few_letters(700, 2), few_letters(66000, 256)]


def calls_of_pack():
    return [("pack", flags, most, text) for text in some_texts() for flags, most in (
        (0, MOST), (5, MOST), (10, MOST), (15, MOST), (15, 3), (16, MOST), (0, -1))]


def calls_of_unpack():
    frames = [frame_by_the_document(flags, text) for text in some_texts() for flags in (0, 7, 8, 15)]
    frames += [frame[:-1] for frame in frames] + [[], [4, 34, 77, 24, 96, 64, 131]]
    return [("unpack", most, frame) for frame in frames for most in (MOST, 3, -1)]


def calls_of_pack_block():
    return [("pack_block", most, text) for text in some_texts() for most in (MOST, 3, 0, -1)]


def calls_of_unpack_block():
    made = [[0], [0x10, 4], [0x2F, 1, 2, 1, 0, 255, 7, 0x10, 9], [0x10, 1, 2, 0, 0], [0x10], []]
    made += [block_by_the_document(text) for text in some_texts()]
    return [("unpack_block", most, block) for block in made for most in (MOST, 3, 0, -1)]


def calls_of_sum_of():
    return [("sum_of", seed, text) for text in some_texts() for seed in (0, 1, 2654435761, 4294967295)]


def all_calls():
    return calls_of_pack() + calls_of_unpack() + calls_of_pack_block() + calls_of_unpack_block() + calls_of_sum_of()


def answer_of(call, module=blocks):
    return getattr(module, call[0])(*call[1:])


def loaded_anew():
    """The module as if nothing had ever been called."""
    kept = {name: sys.modules.pop(name) for name in list(sys.modules) if name.split(".")[0] == "shorttexts"}
    anew = importlib.import_module("shorttexts.blocks")
    sys.modules.update(kept)
    assert anew is not blocks
    return anew


class Calls(unittest.TestCase):
    def test_what_is_handed_in_is_not_changed(self):
        for call in all_calls():
            handed = call[-1]
            kept = list(handed)
            answer_of(call)
            self.assertIs(call[-1], handed)
            self.assertEqual(handed, kept)

    def test_what_is_handed_in_is_not_changed_for_a_while_either(self):
        for call in all_calls():
            self.assertEqual(answer_of(call[:-1] + (Watched(call[-1]),)), answer_of(call))

    def test_what_is_given_back_is_the_caller_s_own(self):
        for call in all_calls():
            kept = list(call[-1])
            answer = answer_of(call)
            same = list(answer)
            answer.append(1)
            answer[0] = 99
            self.assertEqual(call[-1], kept)
            self.assertEqual(answer_of(call), same)

    def test_the_same_call_twice_gives_the_same_answer(self):
        calls = all_calls()
        self.assertEqual([answer_of(call) for call in calls], [answer_of(call) for call in calls])

    def test_mixed_calls_give_what_each_gives_alone(self):
        calls = all_calls()
        alone = [answer_of(call, loaded_anew()) for call in calls]
        together = loaded_anew()
        self.assertEqual([answer_of(call, together) for call in calls], alone)
        order = list(range(len(calls)))
        random.Random(1).shuffle(order)
        for k in order + order[::-1]:
            self.assertEqual(answer_of(calls[k], together), alone[k], calls[k][:-1])

    def test_in_turn_on_the_same_lists(self):
        text = few_letters(3000, 4)
        kept = list(text)
        for flags in range(16):
            frame = blocks.pack(flags, MOST, text)[1:]
            block = blocks.pack_block(MOST, text)[1:]
            self.assertEqual(frame, frame_by_the_document(flags, text))
            self.assertEqual(block, block_by_the_document(text))
            self.assertEqual(blocks.unpack(MOST, frame)[1:], text)
            self.assertEqual(blocks.unpack_block(MOST, block)[1:], text)
            self.assertEqual(blocks.sum_of(flags, text), [xxhash(text, flags)])
            if flags & 1:
                self.assertEqual(frame[-4:], bytes_of(blocks.sum_of(0, text)[0], 4))
        self.assertEqual(text, kept)

    def test_a_changed_list_gives_another_answer(self):
        text = [0] * 300
        for byte in (0, 1, 2):
            text[200] = byte
            self.assertEqual(blocks.pack(15, MOST, text)[1:], frame_by_the_document(15, text))
        frame = frame_by_the_document(0, [1, 2, 3])
        for byte in (1, 5, 6):
            frame[-7] = byte
            self.assertEqual(blocks.unpack(MOST, frame), [3, byte, 2, 3])

    def test_a_list_of_whole_numbers_is_given_back(self):
        for call in all_calls():
            answer = answer_of(call)
            self.assertIs(type(answer), list)
            self.assertEqual({type(number) for number in answer}, {int})
            if call[0] == "sum_of":
                self.assertEqual(len(answer), 1)
                self.assertTrue(0 <= answer[0] <= 4294967295)
            elif answer[0] < 0:
                self.assertEqual(len(answer), 1)
            else:
                self.assertEqual(answer[0], len(answer) - 1)
                self.assertTrue(all(0 <= number <= 255 for number in answer[1:]))

    def test_the_arguments_are_called_as_told(self):
        self.assertEqual(blocks.pack(flags=0, most=MOST, text=[]), blocks.pack(0, MOST, []))
        self.assertEqual(blocks.unpack(most=MOST, frame=[]), blocks.unpack(MOST, []))
        self.assertEqual(blocks.pack_block(most=MOST, text=[]), blocks.pack_block(MOST, []))
        self.assertEqual(blocks.unpack_block(most=MOST, block=[0]), blocks.unpack_block(MOST, [0]))
        self.assertEqual(blocks.sum_of(seed=1, text=[2]), blocks.sum_of(1, [2]))

    def test_nothing_is_printed_read_or_imported(self):
        out = io.StringIO()
        refused = AssertionError("not asked for")
        calls = all_calls()
        with contextlib.redirect_stdout(out), contextlib.redirect_stderr(out), \
                mock.patch("builtins.open", side_effect=refused), \
                mock.patch("builtins.input", side_effect=refused), \
                mock.patch("builtins.__import__", side_effect=refused):
            for call in calls:
                answer_of(call)
        self.assertEqual(out.getvalue(), "")


if __name__ == "__main__":
    unittest.main()
