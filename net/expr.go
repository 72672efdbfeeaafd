package net

import (
	"pentode/api"
	"pentode/value"
)

// expr is an expression, which has operands: none, one or two.
type expr interface {
	operands() []expr
}

// number is an expression that is a number.
type number struct{ num value.Num }

// param is an expression that is the name of a parameter.
type param string

// negative is an expression with a minus sign before it.
type negative struct{ of expr }

// pair is two expressions with a sign between them.
type pair struct {
	sign        string
	left, right expr
}

func (number) operands() []expr { return nil }

func (param) operands() []expr { return nil }

func (x negative) operands() []expr { return []expr{x.of} }

func (x pair) operands() []expr { return []expr{x.left, x.right} }

// evaluate returns the number that an expression is for some parameters.
func evaluate(x expr, params map[string]value.Num) (value.Num, api.Errno) {
	var of [2]value.Num
	for i, part := range x.operands() {
		n, e := evaluate(part, params)
		if e != api.OK {
			return value.Num{}, e
		}
		of[i] = n
	}
	switch x := x.(type) {
	case number:
		return x.num, api.OK
	case param:
		return params[string(x)], api.OK
	case negative:
		return value.Neg(of[0]), api.OK
	case pair:
		return operate(x.sign, of[0], of[1])
	}
	return value.Num{}, api.ErrArg
}

// operate returns the result of an operation, which may not have too many digits.
func operate(sign string, a, b value.Num) (value.Num, api.Errno) {
	var n value.Num
	switch sign {
	case "+":
		n = value.Add(a, b)
	case "-":
		n = value.Sub(a, b)
	case "*":
		n = value.Mul(a, b)
	case "/":
		q, e := value.Div(a, b)
		if e != api.OK {
			return value.Num{}, e
		}
		n = q
	}
	if value.Digits(n) > api.MaxDigits {
		return value.Num{}, api.ErrLong
	}
	return n, api.OK
}
