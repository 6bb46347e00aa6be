"""Words with opposites, whose round stretches may be swapped."""
