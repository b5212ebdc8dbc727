"""By road behind it: a car follows a balloon, to be there when it lands."""
