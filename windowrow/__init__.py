"""Windows one behind another: who is done where, and when."""
