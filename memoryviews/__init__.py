"""What several hands can read of one memory by four rules."""
