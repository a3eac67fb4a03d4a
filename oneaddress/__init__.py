"""Packets of one network let out by one address of another: heads rewritten in place."""
