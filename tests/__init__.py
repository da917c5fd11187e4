"""The tests of paidinparts."""
