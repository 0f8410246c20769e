"""Gate scheduler with a waiting-time limit; `gatehours.planner` holds the way in."""
