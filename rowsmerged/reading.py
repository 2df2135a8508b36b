"""What trees and steps read alike from numbers that may be anything."""

TOP_NAME = 9
TOP_TOKEN = 99


def is_name(number):
    return 0 <= number <= TOP_NAME


def are_tokens(numbers):
    return all([0 <= number <= TOP_TOKEN for number in numbers])


def tokens_at(numbers, place, most):
    """The tokens told at a place, behind how many they are; None if none such are told there."""
    if place >= len(numbers) or not 0 <= numbers[place] <= most:
        return None
    start = place + 1
    tokens = tuple(numbers[start:start + numbers[place]])
    if len(tokens) < numbers[place] or not are_tokens(tokens):
        return None
    return tokens
