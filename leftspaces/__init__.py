"""Leftspaces: spaces left in writing for letters that are painted later, with papers for what is told of them."""
