"""A museum's things: where each was, what light it had, and the shows it is booked for."""
