"""A subject and its answers: fugueanswers.fugue.answers is the way in."""
