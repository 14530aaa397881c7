"""Commands to a craft far away: both ends of a noisy line, a craft and a ground."""
