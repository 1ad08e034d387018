"""One letter is sent to somebody who has seen something that goes with the thing."""
