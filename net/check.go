package net

import (
	"strings"

	"pentode/api"
	"pentode/value"
)

// Check returns the part, the number in it and the error of a net.
func Check(n api.Net) (part, at int, e api.Errno) {
	if n.Nodes < 0 || n.Nodes > api.MaxNodes {
		return 0, 0, api.ErrRange
	}
	if len(n.Elems) > api.MaxElems || len(n.Models) > api.MaxModels {
		return 0, 0, api.ErrLong
	}
	for i, m := range n.Models {
		if e := checkModel(m); e != api.OK {
			return 1, i, e
		}
	}
	for i, el := range n.Elems {
		if e := checkElem(n, el); e != api.OK {
			return 2, i, e
		}
	}
	return 0, 0, api.OK
}

func checkModel(m api.Model) api.Errno {
	switch m.Kind {
	case api.MdCurve:
		if m.Kp != "" || m.Vt != "" {
			return api.ErrArg
		}
		return checkCurve(m)
	case api.MdSquare:
		if len(m.Breaks) > 0 || len(m.Pieces) > 0 {
			return api.ErrArg
		}
		return checkSquare(m)
	}
	return api.ErrArg
}

func checkSquare(m api.Model) api.Errno {
	kp, e := value.Parse(m.Kp)
	if e != api.OK {
		return e
	}
	if e := value.Check(m.Vt); e != api.OK {
		return e
	}
	if value.Sign(kp) <= 0 {
		return api.ErrRange
	}
	return api.OK
}

func checkCurve(m api.Model) api.Errno {
	if e := checkSizes(m); e != api.OK {
		return e
	}
	if e := firstError(m.Breaks); e != api.OK {
		return e
	}
	for _, piece := range m.Pieces {
		if e := firstError(piece); e != api.OK {
			return e
		}
	}
	for k, text := range m.Breaks {
		at := parsed(text)
		if k > 0 && value.Cmp(parsed(m.Breaks[k-1]), at) >= 0 {
			return api.ErrForm
		}
		if value.Cmp(polynomial(m.Pieces[k], at), polynomial(m.Pieces[k+1], at)) != 0 {
			return api.ErrForm
		}
	}
	return api.OK
}

// checkSizes looks at how many pieces, coefficients and breaks a curve has.
func checkSizes(m api.Model) api.Errno {
	if len(m.Pieces) > api.MaxPieces {
		return api.ErrLong
	}
	empty := false
	for _, piece := range m.Pieces {
		if len(piece) > api.MaxPowers {
			return api.ErrLong
		}
		empty = empty || len(piece) == 0
	}
	if empty || len(m.Breaks) != len(m.Pieces)-1 {
		return api.ErrForm
	}
	return api.OK
}

// firstError returns the error of the first text of a list that has one.
func firstError(list []api.Val) api.Errno {
	for _, v := range list {
		if e := value.Check(v); e != api.OK {
			return e
		}
	}
	return api.OK
}

func checkElem(n api.Net, el api.Elem) api.Errno {
	if !isKind(el.Kind) || hasSpare(el) {
		return api.ErrArg
	}
	if !nodesFit(n, el) || !refFits(n, el) || !modelFits(n, el) {
		return api.ErrRange
	}
	val := shapes[el.Kind].val
	if val == noVal {
		return api.OK
	}
	x, e := value.Parse(el.Val)
	if e != api.OK {
		return e
	}
	if val == aboveVal && value.Sign(x) <= 0 {
		return api.ErrRange
	}
	return api.OK
}

// hasSpare returns whether an element has something that its kind does not use.
func hasSpare(el api.Elem) bool {
	s := shapes[el.Kind]
	return el.C != 0 && !strings.Contains(s.nodes, "C") ||
		el.D != 0 && !strings.Contains(s.nodes, "D") ||
		el.Ref != 0 && s.ref == noRef ||
		el.Model != 0 && s.model == 0 ||
		el.Val != "" && s.val == noVal
}

func nodesFit(n api.Net, el api.Elem) bool {
	for _, node := range nodesOf(el) {
		if node < 0 || node > n.Nodes {
			return false
		}
	}
	return true
}

func refFits(n api.Net, el api.Elem) bool {
	switch shapes[el.Kind].ref {
	case elemRef:
		if el.Ref < 0 || el.Ref >= len(n.Elems) {
			return false
		}
		kind := n.Elems[el.Ref].Kind
		return isKind(kind) && shapes[kind].own
	case stateRef:
		return el.Ref == 0 || el.Ref == 1
	}
	return true
}

func modelFits(n api.Net, el api.Elem) bool {
	kind := shapes[el.Kind].model
	return kind == 0 || el.Model >= 0 && el.Model < len(n.Models) && n.Models[el.Model].Kind == kind
}
