package probe

import (
	"sync"

	"pentode/api"
	"pentode/spread"
)

// predict tells the worst values of Outs with a fault, or without one if it is 0.
func (k task) predict(fault int) ([]api.Range, api.Errno) {
	var list []api.Range
	for _, out := range k.Outs {
		w, e := spread.Worst(k.numbered(fault, out))
		if e != api.OK {
			return nil, e
		}
		list = append(list, api.Range{Lo: w.Lo, Hi: w.Hi})
	}
	return list, api.OK
}

// dictionary has the prediction without a fault, and those for all faults, each one found by a goroutine of its own.
func (k task) dictionary() ([][]api.Range, api.Errno) {
	list := make([][]api.Range, 1+len(k.Faults))
	errnos := make([]api.Errno, len(list))
	var group sync.WaitGroup
	for fault := range list {
		group.Go(func() {
			list[fault], errnos[fault] = k.predict(fault)
		})
	}
	group.Wait()
	for _, e := range errnos {
		if e != api.OK {
			return nil, e
		}
	}
	return list, api.OK
}
