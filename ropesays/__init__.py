"""Ropesays: equations tied into ropes, what any tangle lets through, and every rope for it."""
