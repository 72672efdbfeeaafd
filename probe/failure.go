package probe

import (
	"errors"
	"strconv"

	"pentode/api"
)

// wrongMeter tells which number of a meter is wrong, and why.
type wrongMeter struct {
	part string
	code api.Errno
}

func (w wrongMeter) Error() string {
	return w.part + ": error " + strconv.Itoa(int(w.code))
}

// atMeter tells which meter of a task, counted from 0 on, an error is about.
type atMeter struct {
	at  int
	err error
}

func (a atMeter) Error() string {
	return "meter " + strconv.Itoa(a.at) + ": " + a.err.Error()
}

func (a atMeter) Unwrap() error {
	return a.err
}

// errnoOf is the code of an error of meters.
func errnoOf(err error) api.Errno {
	var wrong wrongMeter
	if errors.As(err, &wrong) {
		return wrong.code
	}
	return api.OK
}
