package value_test

import (
	"math"
	"math/big"
	"testing"

	"pentode/value"
)

func TestP1_5DownAndUp(t *testing.T) {
	for _, c := range []struct {
		x        string
		bits     int
		down, up string
	}{
		{"1/3", 3, "5/16", "3/8"}, {"-1/3", 3, "-3/8", "-5/16"}, {"7", 2, "6", "8"}, {"-7", 2, "-8", "-6"}, {"7", 3, "7", "7"}, {"7", 1, "4", "8"}, {"-7", 1, "-8", "-4"},
		{"0", 1, "0", "0"}, {"0", 5, "0", "0"}, {"0", 0, "0", "0"}, {"8", 1, "8", "8"}, {"-8", 1, "-8", "-8"}, {"1/8", 1, "1/8", "1/8"}, {"3/8", 1, "1/4", "1/2"}, {"3/8", 2, "3/8", "3/8"}, {"-3/8", 2, "-3/8", "-3/8"},
		{"10", 3, "10", "10"}, {"11", 3, "10", "12"}, {"15", 3, "14", "16"}, {"31/32", 4, "15/16", "1"}, {"-31/32", 4, "-1", "-15/16"}, {"1000000", 1, "524288", "1048576"}, {"1/1000000", 1, "1/1048576", "1/524288"},
		{"4/3", 2, "1", "3/2"}, {"2/3", 2, "1/2", "3/4"}, {"1", 2000, "1", "1"},
		// Numbers of bits below 1 count as 1.
		{"7", 0, "4", "8"}, {"7", -5, "4", "8"}, {"-7", 0, "-8", "-4"}, {"1/3", math.MinInt, "1/4", "1/2"}, {"6", -1, "4", "8"},
	} {
		x := parse(t, c.x)
		if down, up := text(value.Down(x, c.bits)), text(value.Up(x, c.bits)); down != c.down || up != c.up {
			t.Errorf("Down, Up of %s, %d bits = %s, %s, want %s, %s", c.x, c.bits, down, up, c.down, c.up)
		}
	}
}

func TestP1_5ManyBits(t *testing.T) {
	third := parse(t, "1/3")
	for _, bits := range []int{1999, 2000, 2001, 5000, math.MaxInt} {
		want := roundWant(big.NewRat(1, 3), min(bits, 2000), false)
		if got := value.Down(third, bits); text(got) != want.RatString() {
			t.Errorf("Down of 1/3, %d bits, has %d digits", bits, value.Digits(got))
		}
		want = roundWant(big.NewRat(1, 3), min(bits, 2000), true)
		if got := value.Up(third, bits); text(got) != want.RatString() {
			t.Errorf("Up of 1/3, %d bits, has %d digits", bits, value.Digits(got))
		}
	}
	// An integer of 2001 bits has too many of them, one of 2000 has not.
	one := big.NewInt(1)
	for n, same := range map[uint]bool{1999: true, 2000: false} {
		odd := new(big.Int).Lsh(one, n)
		x := integerOf(t, odd.Add(odd, one))
		if down, up := value.Down(x, 9999), value.Up(x, 9999); (value.Cmp(down, x) == 0) != same || (value.Cmp(up, x) == 0) != same {
			t.Errorf("Down, Up of 2^%d + 1", n)
		}
	}
}

// roundWant is the number of at most so many bits next to r: above it or not, or below it or not.
func roundWant(r *big.Rat, bits int, up bool) *big.Rat {
	if r.Sign() == 0 {
		return new(big.Rat)
	}
	if r.Sign() < 0 {
		z := roundWant(new(big.Rat).Neg(r), bits, !up)
		return z.Neg(z)
	}
	unit := big.NewRat(1, 1) // what a last bit is worth
	least := new(big.Rat).SetInt(new(big.Int).Lsh(big.NewInt(1), uint(bits-1)))
	most := new(big.Rat).SetInt(new(big.Int).Lsh(big.NewInt(1), uint(bits)))
	half, two := big.NewRat(1, 2), big.NewRat(2, 1)
	units := new(big.Rat).Set(r)
	for units.Cmp(least) < 0 {
		units.Mul(units, two)
		unit.Mul(unit, half)
	}
	for units.Cmp(most) >= 0 {
		units.Mul(units, half)
		unit.Mul(unit, two)
	}
	n := new(big.Int).Quo(units.Num(), units.Denom())
	if up && !units.IsInt() {
		n.Add(n, big.NewInt(1))
	}
	return unit.Mul(unit, new(big.Rat).SetInt(n))
}

func TestP1_5ManyRoundings(t *testing.T) {
	check := func(r *big.Rat, bits int) {
		t.Helper()
		x := numOf(t, r)
		down, up := roundWant(r, bits, false), roundWant(r, bits, true)
		if text(value.Down(x, bits)) != down.RatString() || text(value.Up(x, bits)) != up.RatString() {
			t.Fatalf("Down, Up of %s, %d bits: %s, %s", r.RatString(), bits, text(value.Down(x, bits)), text(value.Up(x, bits)))
		}
	}
	for _, s := range edges() {
		for _, bits := range []int{1, 2, 3, 8, 62, 63, 64, 65, 127, 128, 129} {
			check(rat(t, s), bits)
		}
	}
	g := newNumbers()
	for i := range 2000 {
		check(g.rat(1+i%300), 1+g.below(100))
	}
}

func TestP1_5FloorAndCeil(t *testing.T) {
	for _, c := range []struct{ x, floor, ceil string }{
		{"-3/8", "-1", "0"}, {"3/8", "0", "1"}, {"7/2", "3", "4"}, {"-7/2", "-4", "-3"}, {"5", "5", "5"}, {"-5", "-5", "-5"}, {"0", "0", "0"}, {"-1/99", "-1", "0"}, {"1/99", "0", "1"}, {"-99/100", "-1", "0"},
		{"36893488147419103231/2", "18446744073709551615", "18446744073709551616"}, {"-36893488147419103231/2", "-18446744073709551616", "-18446744073709551615"}, {"1/18446744073709551616", "0", "1"},
	} {
		x := parse(t, c.x)
		if floor, ceil := text(value.Floor(x)), text(value.Ceil(x)); floor != c.floor || ceil != c.ceil {
			t.Errorf("Floor, Ceil of %s = %s, %s", c.x, floor, ceil)
		}
	}
	g := newNumbers()
	one := big.NewInt(1)
	for i := range 1000 {
		r := g.rat(1 + i%300)
		floor := new(big.Int).Div(r.Num(), r.Denom()) // Div rounds down, as the denominator is above 0
		ceil := new(big.Int).Set(floor)
		if !r.IsInt() {
			ceil.Add(ceil, one)
		}
		x := numOf(t, r)
		if text(value.Floor(x)) != floor.String() || text(value.Ceil(x)) != ceil.String() {
			t.Fatalf("Floor, Ceil of %s = %s, %s", r.RatString(), text(value.Floor(x)), text(value.Ceil(x)))
		}
	}
}
