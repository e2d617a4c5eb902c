"""Powers in balance: the most general filling that brings products of powers to nothing."""
