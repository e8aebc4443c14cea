"""Nested records shredded into columns, and assembled again."""
