"""Tests of lettersonce.post: point 8.2."""

import random
import time
import unittest

from lettersonce import errors
from lettersonce.post import Post

from samples import Touchy, TouchyText, TouchyTuple, letters, odd_things

ROOM = ("anna", "tea")
HAVE = ("have", ROOM, (("anna", 2), ("bert", 1)))
LETTERS = ("letters", ROOM, tuple([row.value() for row in letters()]))
GREAT = 10 ** 18


class Posts(unittest.TestCase):
    def assert_holds(self, post, parcels, sent):
        """Assert that a post has just the parcels of a dict by their numbers, and that so many were put into it."""
        numbers = sorted(parcels)
        self.assertEqual((post.numbers(), list(post), len(post), post.sent), (numbers, numbers, len(numbers), sent))
        self.assertIs(type(post.numbers()), list)
        for number in list(range(-1, sent + 3)) + [GREAT, GREAT + 1, -GREAT]:
            if number in parcels:
                for _ in range(2):
                    self.assertEqual(post.parcel(number), parcels[number])
                    self.assertIs(type(post.parcel(number)), tuple)
            else:
                self.assertRaises(errors.Unknown, post.parcel, number)
        self.assertEqual(post.numbers(), numbers)

    def assert_refuses(self, post, error, call, *arguments):
        """Assert that a call raises just this error and changes nothing."""
        before = [post.parcel(number) for number in post.numbers()], post.numbers(), list(post), len(post), post.sent
        with self.assertRaises(error) as caught:
            call(*arguments)
        self.assertIs(type(caught.exception), error)
        after = [post.parcel(number) for number in post.numbers()], post.numbers(), list(post), len(post), post.sent
        self.assertEqual(after, before)

    def test_a_new_post(self):
        self.assert_holds(Post(), {}, 0)

    def test_parcels_of_both_kinds(self):
        post = Post()
        puts = [("anna", "bert", HAVE), ("bert", "anna", LETTERS), ("anna", "bert", ("have", ROOM, ())), ("anna", "bert", HAVE)]
        for number, put in enumerate(puts, start=1):
            answer = post.put(*put)
            self.assertEqual((answer, type(answer)), (number, int))
            self.assert_holds(post, dict(enumerate(puts[:number], start=1)), number)

    def test_from_somebody_to_the_same_one_and_between_people_that_nobody_knows(self):
        post = Post()
        puts = [("anna", "anna", HAVE), ("a", "z9", LETTERS), ("a23456789012", "b", HAVE), ("zoe", "zoe", LETTERS)]
        self.assertEqual([post.put(*put) for put in puts], [1, 2, 3, 4])
        self.assert_holds(post, dict(enumerate(puts, start=1)), 4)

    def test_losing(self):
        post = Post()
        parcels = {number: ("anna", "bert", ("have", ROOM, (("anna", number),))) for number in range(1, 6)}
        for number in parcels:
            post.put(*parcels[number])
        for number in (3, 1, 5, 4, 2):
            self.assertIsNone(post.lose(number))
            del parcels[number]
            self.assert_holds(post, parcels, 5)
            self.assert_refuses(post, errors.Unknown, post.lose, number)
            self.assert_refuses(post, errors.Unknown, post.parcel, number)

    def test_no_number_is_given_again(self):
        post = Post()
        self.assertEqual([post.put("anna", "bert", HAVE) for _ in range(3)], [1, 2, 3])
        post.lose(3)
        post.lose(1)
        self.assertEqual(post.put("bert", "anna", HAVE), 4)
        self.assert_holds(post, {2: ("anna", "bert", HAVE), 4: ("bert", "anna", HAVE)}, 4)
        post.lose(2)
        post.lose(4)
        self.assert_holds(post, {}, 4)
        self.assertEqual(post.put("carl", "anna", LETTERS), 5)
        self.assert_holds(post, {5: ("carl", "anna", LETTERS)}, 5)

    def test_numbers_that_are_not_there(self):
        for many in (0, 3):
            post = Post()
            for _ in range(many):
                post.put("anna", "bert", HAVE)
            for number in (0, -1, -2, -3, many + 1, many + 2, GREAT, 10 ** 30, -GREAT):
                self.assert_refuses(post, errors.Unknown, post.parcel, number)
                self.assert_refuses(post, errors.Unknown, post.lose, number)

    def test_senders_and_receivers_that_are_no_names(self):
        post = Post()
        post.put("anna", "bert", HAVE)
        things = odd_things() + ["", "Anna", "7up", "a" * 13, "an na", ROOM, TouchyText("anna")]
        for thing in things:
            self.assert_refuses(post, errors.BadValue, post.put, thing, "bert", HAVE)
            self.assert_refuses(post, errors.BadValue, post.put, "anna", thing, LETTERS)
            self.assert_refuses(post, errors.BadValue, post.put, thing, thing, HAVE)
        self.assertEqual(post.put("anna", "bert", HAVE), 2)

    def test_things_that_are_no_parcels(self):
        post = Post()
        post.put("anna", "bert", HAVE)
        things = odd_things() + [list(HAVE), ("have", ROOM, (("bert", 1), ("anna", 1))), ("letters", ROOM, ()), HAVE[:2],
                                 ("letters", ROOM, LETTERS[2][0]), ("give", ROOM, ()), ("have", ("Anna", "tea"), ()), HAVE + (1,),
                                 ("have", ROOM, [("anna", 1)]), ("letters", ROOM, list(LETTERS[2])), TouchyTuple(HAVE),
                                 (TouchyText("have"), ROOM, ()), ("anna", "bert", HAVE), (HAVE,)]
        for thing in things:
            self.assert_refuses(post, errors.BadValue, post.put, "anna", "bert", thing)
            self.assert_refuses(post, errors.BadValue, post.put, Touchy(), "bert", thing)
            self.assert_refuses(post, errors.BadValue, post.put, "anna", 1, thing)
        self.assertEqual(post.put("anna", "bert", HAVE), 2)

    def test_a_parcel_stays_until_it_is_lost(self):
        post = Post()
        post.put("anna", "bert", HAVE)
        for number in range(2, 30):
            post.put("bert", "carl", LETTERS)
            self.assertEqual(post.parcel(1), ("anna", "bert", HAVE))
            post.lose(number)
        self.assert_holds(post, {1: ("anna", "bert", HAVE)}, 29)

    def test_what_is_returned_is_new(self):
        post = Post()
        post.put("anna", "bert", HAVE)
        post.put("anna", "bert", LETTERS)
        numbers = post.numbers()
        numbers.append(7)
        numbers.remove(1)
        self.assert_holds(post, {1: ("anna", "bert", HAVE), 2: ("anna", "bert", LETTERS)}, 2)
        numbers = post.numbers()
        post.lose(1)
        self.assertEqual(numbers, [1, 2])

    def test_two_posts_have_no_effect_on_each_other(self):
        one, other = Post(), Post()
        one.put("anna", "bert", HAVE)
        self.assert_holds(other, {}, 0)
        self.assertEqual((other.put("bert", "anna", LETTERS), one.put("carl", "anna", HAVE)), (1, 2))
        other.lose(1)
        self.assert_holds(one, {1: ("anna", "bert", HAVE), 2: ("carl", "anna", HAVE)}, 2)
        self.assert_holds(other, {}, 1)

    def test_the_arguments_by_name(self):
        post = Post()
        self.assertEqual(post.put(parcel=HAVE, receiver="bert", sender="anna"), 1)
        self.assertEqual(post.parcel(number=1), ("anna", "bert", HAVE))
        self.assertIsNone(post.lose(number=1))

    def test_random_steps_against_a_dict(self):
        for seed in range(20):
            chance, post, parcels, sent = random.Random(seed), Post(), {}, 0
            for _ in range(60):
                if chance.random() < 0.6 or not parcels:
                    put = (chance.choice("abc"), chance.choice("abc"), chance.choice([HAVE, LETTERS]))
                    sent += 1
                    self.assertEqual(post.put(*put), sent)
                    parcels[sent] = put
                else:
                    number = chance.choice(sorted(parcels))
                    post.lose(number)
                    del parcels[number]
                self.assert_holds(post, parcels, sent)

    def test_many_parcels(self):
        started = time.perf_counter()
        post = Post()
        for number in range(1, 20001):
            self.assertEqual(post.put("anna", "bert", HAVE), number)
        for number in range(1, 20001):
            if number % 3:
                post.lose(number)
        self.assertEqual((post.numbers(), len(post), post.sent), (list(range(3, 20001, 3)), 6666, 20000))
        self.assertLess(time.perf_counter() - started, 5)


if __name__ == "__main__":
    unittest.main()
