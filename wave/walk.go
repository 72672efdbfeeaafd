package wave

import (
	"errors"
	"slices"

	"pentode/api"
	"pentode/value"
)

// walk is how far the wave of a task has been followed.
type walk struct {
	task
	rule  func(s step, tol value.Num, bits int) (y, r []value.Num, err error) // by which rule its steps are made
	time  value.Num
	x     []value.Num
	steps []api.WvStep
}

// toEnd follows the wave to its end.
func (w *walk) toEnd() error {
	for value.Cmp(w.time, w.end) < 0 {
		if len(w.steps) == api.MaxWvSteps {
			return errLong
		}
		if err := w.next(); err != nil {
			return err
		}
	}
	return nil
}

// next makes the next step, which is shorter if longer ones fail.
func (w *walk) next() error {
	h := value.Min(w.step, value.Sub(w.stopAfter(w.time), w.time))
	err := w.try(h)
	var failed failure
	for halves := 0; halves < api.MaxHalves && errors.As(err, &failed); halves++ {
		h = half(h)
		err = w.try(h)
	}
	return err
}

// try makes a step of this length, unless it fails.
func (w *walk) try(h value.Num) error {
	end := value.Add(w.time, h)
	n, err := w.netFor(w.time, end)
	if err != nil {
		return err
	}
	y, r, err := w.rule(stepOf(n, w.x, h), w.tol, w.bits)
	if err != nil {
		return err
	}
	if slices.ContainsFunc(slices.Concat(y, r, []value.Num{end, h}), isLong) {
		return errLong
	}
	w.steps = append(w.steps, api.WvStep{Time: value.Text(end), H: value.Text(h), X: textsOf(y), Residual: textsOf(r)})
	w.time, w.x = end, y
	return nil
}
