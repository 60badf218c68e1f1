"""A processor of eight bits, run over its memory."""
