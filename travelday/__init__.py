"""A traveller's day: plans, journeys and tickets. See travelday.desk."""
