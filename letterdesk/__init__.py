"""Letterdesk: letters in and out, answers that hang on one another, and days by which they are due."""
