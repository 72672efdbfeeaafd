package wave

import (
	"errors"
	"strconv"

	"pentode/api"
)

// failure tells that a step cannot be made: what was tried, and how often.
type failure struct {
	what  string
	tries int
}

func (f failure) Error() string {
	return "no step: " + f.what + " after " + strconv.Itoa(f.tries) + " tries"
}

// errLong tells that there is more of something than a limit allows, which no other step can change.
var errLong = errors.New("more than a limit allows")

// errnoOf is the code of an error of a step.
func errnoOf(err error) api.Errno {
	var failed failure
	switch {
	case err == nil:
		return api.OK
	case errors.As(err, &failed):
		return ErrStep
	}
	return api.ErrLong
}
