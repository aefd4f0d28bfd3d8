"""Pairbook: accounts kept in pairs, with undo and redo."""
