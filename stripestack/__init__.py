"""Stripestack: files of nested records in columns."""
