"""Clockless: circuits without a clock from signal transition graphs."""
