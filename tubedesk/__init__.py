"""Judges which tubes of glass hang on which transformers, and finds the fewest."""
