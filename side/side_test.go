package side_test

import (
	"math/big"
	"slices"
	"testing"

	"strait/api"
	"strait/rat"
	"strait/side"
	"strait/vec"
)

const full = 1<<32 - 1

func above(limbs ...uint32) api.Int { return api.Int{Abs: limbs} }

func below(limbs ...uint32) api.Int { return api.Int{Neg: true, Abs: limbs} }

// by is a rational as it stands there, normalised or not.
func by(num api.Int, den ...uint32) api.Rat { return api.Rat{Num: num, Den: den} }

// of is a rational of little numbers as it stands there.
func of(n int, d uint32) api.Rat {
	if n < 0 {
		return by(below(uint32(-n)), d)
	}
	return by(above(uint32(n)), d)
}

// pt is a point of fractions as they stand there.
func pt(xn int, xd uint32, yn int, yd uint32) api.Pt { return api.Pt{X: of(xn, xd), Y: of(yn, yd)} }

// at is a point of whole numbers.
func at(x, y int) api.Pt { return pt(x, 1, y, 1) }

// grid are all points of whole numbers from -2 to 2, and some between them.
func grid() []api.Pt {
	var l []api.Pt
	for x := -2; x <= 2; x++ {
		for y := -2; y <= 2; y++ {
			l = append(l, at(x, y))
		}
	}
	return append(l, pt(1, 2, 1, 2), pt(-3, 2, 6, 4), pt(2, 4, 0, 3), pt(1, 3, -1, 3))
}

// odd are points whose numbers are noughts of all forms, long ones, or not normalised.
func odd() []api.Pt {
	return []api.Pt{
		{}, pt(1, 1, 0, 1), pt(0, 5, -1, 1), pt(5, 0, 2, 3), pt(-6, 4, -35, 60), pt(1, 3, 1, 3), pt(-7, 2, 9, 1), pt(4, 12, 3, 9),
		{X: by(above(full), full-1), Y: by(below(1), 0, 1)}, {X: by(below(0, 1), 3), Y: by(above(5, 9), 9, 5, 0)}, {X: by(below(0, 0), 6, 0), Y: by(above(7))},
		{X: by(below(0, 2), 3), Y: by(above(10, 18), 9, 5, 0)}, {X: by(above(0, 3), 9), Y: by(below(5, 9), 9, 5)},
	}
}

func natValue(a api.Nat) *big.Int {
	v := new(big.Int)
	for _, limb := range slices.Backward(a) {
		v.Lsh(v, 32).Add(v, big.NewInt(int64(limb)))
	}
	return v
}

// value is what the words say that a rational counts as.
func value(r api.Rat) *big.Rat {
	num, den := natValue(r.Num.Abs), natValue(r.Den)
	if den.Sign() == 0 {
		return new(big.Rat)
	}
	if r.Num.Neg {
		num.Neg(num)
	}
	return new(big.Rat).SetFrac(num, den)
}

func less(a, b api.Rat) *big.Rat { return new(big.Rat).Sub(value(a), value(b)) }

func times(a, b *big.Rat) *big.Rat { return new(big.Rat).Mul(a, b) }

// sideOf is the sign of the cross, by the words.
func sideOf(a, b, p api.Pt) int {
	return times(less(b.X, a.X), less(p.Y, a.Y)).Cmp(times(less(b.Y, a.Y), less(p.X, a.X)))
}

// dotOf is how the ways from b to a and to c lie to each other: below nought where b lies between.
func dotOf(a, b, c api.Pt) int {
	x, y := times(less(a.X, b.X), less(c.X, b.X)), times(less(a.Y, b.Y), less(c.Y, b.Y))
	return x.Add(x, y).Sign()
}

func same(a, b api.Pt) bool { return less(a.X, b.X).Sign() == 0 && less(a.Y, b.Y).Sign() == 0 }

// onIt, by the words: on the line, and an end or between both.
func onIt(a, b, p api.Pt) bool { return sideOf(a, b, p) == 0 && dotOf(a, p, b) <= 0 }

// threes looks at any three of some points, in any order.
func threes(l []api.Pt, look func(a, b, p api.Pt)) {
	for _, a := range l {
		for _, b := range l {
			for _, p := range l {
				look(a, b, p)
			}
		}
	}
}

// all looks at any three of the points of the grid, and of the odd ones.
func all(look func(a, b, p api.Pt)) {
	threes(grid(), look)
	threes(odd(), look)
}

// P9.1

func TestSide(t *testing.T) {
	for _, x := range []struct {
		a, b, p api.Pt
		want    int
	}{
		{at(0, 0), at(2, 0), at(1, 1), 1}, {at(0, 0), at(2, 0), at(1, 0), 0}, {at(0, 0), at(2, 0), at(1, -1), -1}, {at(2, 0), at(0, 0), at(1, 1), -1}, {at(0, 0), at(2, 0), at(5, 0), 0}, {at(0, 0), at(2, 0), at(-5, 0), 0},
		{at(0, 0), at(0, 3), at(-1, 1), 1}, {at(0, 0), at(0, 3), at(1, 1), -1}, {at(1, 1), at(4, 5), at(7, 9), 0}, {at(1, 1), at(4, 5), at(8, 10), -1}, {at(1, 1), at(4, 5), at(6, 8), 1}, {at(-1, -1), at(-4, -5), at(-6, -8), 1},
		{at(3, 3), at(3, 3), at(7, 1), 0}, {at(3, 3), at(3, 3), at(3, 3), 0}, {api.Pt{}, pt(1, 2, 1, 3), pt(3, 4, 1, 2), 0}, {api.Pt{}, pt(1, 2, 1, 3), pt(3, 4, 1000001, 2000000), 1}, {api.Pt{}, pt(1, 2, 1, 3), pt(3, 4, 999999, 2000000), -1},
		{pt(5, 0, 3, 0), at(1, 0), pt(4, 0, 1, 9), 1}, {pt(2, 4, 2, 4), pt(1, 2, 1, 2), at(9, 0), 0},
	} {
		if got := side.Side(x.a, x.b, x.p); got != x.want {
			t.Error(x.a, x.b, x.p, got)
		}
	}
	all(func(a, b, p api.Pt) {
		if got := side.Side(a, b, p); got != sideOf(a, b, p) {
			t.Fatal(a, b, p, got)
		}
	})
}

// Both products of the cross are as long as these, and part by 1 alone.
func TestSideOfLongOnes(t *testing.T) {
	long := func(k uint, more int64) *big.Int {
		v := new(big.Int).Lsh(big.NewInt(1), k)
		return v.Add(v, big.NewInt(more))
	}
	rational := func(v *big.Int) api.Rat {
		var a api.Nat
		for v := new(big.Int).Set(v); v.Sign() > 0; v.Rsh(v, 32) {
			a = append(a, uint32(new(big.Int).And(v, big.NewInt(full)).Uint64()))
		}
		return by(api.Int{Abs: a}, 1)
	}
	for _, k := range []uint{31, 64, 100, 999, 20000} {
		low, mid, high := rational(long(k, 0)), rational(long(k, 1)), rational(long(k, 2))
		// By the square of mid, that is more by 1 than low by high.
		if got := side.Side(api.Pt{}, api.Pt{X: low, Y: mid}, api.Pt{X: mid, Y: high}); got != -1 {
			t.Error(k, got)
		}
		if got := side.Side(api.Pt{}, api.Pt{X: mid, Y: low}, api.Pt{X: high, Y: mid}); got != 1 {
			t.Error(k, got)
		}
		if got := side.Side(api.Pt{}, api.Pt{X: mid, Y: mid}, api.Pt{X: high, Y: high}); got != 0 {
			t.Error(k, got)
		}
	}
}

func TestTurns(t *testing.T) {
	for _, x := range []struct {
		l    []api.Pt
		want []int
	}{
		{nil, nil}, {[]api.Pt{}, nil}, {[]api.Pt{at(1, 2)}, nil}, {[]api.Pt{at(1, 2), at(3, 4)}, nil},
		{[]api.Pt{at(0, 0), at(2, 0), at(1, 1)}, []int{1, 1, 1}}, {[]api.Pt{at(0, 0), at(1, 1), at(2, 0)}, []int{-1, -1, -1}}, {[]api.Pt{at(0, 0), at(1, 0), at(2, 0)}, []int{0, 0, 0}}, {[]api.Pt{at(0, 0), at(0, 0), at(0, 0)}, []int{0, 0, 0}},
		{[]api.Pt{at(0, 0), at(2, 0), at(4, 0), at(4, 4)}, []int{1, 0, 1, 1}}, {[]api.Pt{at(2, 0), at(4, 0), at(4, 4), at(0, 0)}, []int{0, 1, 1, 1}},
		{[]api.Pt{at(0, 0), at(4, 0), at(1, 1), at(0, 4)}, []int{1, 1, -1, 1}}, {[]api.Pt{at(4, 0), at(0, 0), at(0, 4), at(1, 1)}, []int{-1, -1, -1, 1}}, {[]api.Pt{at(0, 0), at(0, 0), at(4, 0), at(4, 0), at(2, 3)}, []int{0, 0, 0, 0, 1}},
		{[]api.Pt{at(0, 0), at(2, 2), at(2, 0), at(0, 2)}, []int{1, -1, -1, 1}}, {[]api.Pt{{}, pt(4, 2, 5, 0), pt(2, 2, 3, 3)}, []int{1, 1, 1}},
	} {
		if got := side.Turns(x.l...); !slices.Equal(got, x.want) {
			t.Error(x.l, got)
		}
	}
}

func TestTurnsAreSides(t *testing.T) {
	for _, l := range [][]api.Pt{grid(), odd(), slices.Concat(odd(), grid())} {
		for n := range len(l) + 1 {
			got := side.Turns(l[:n]...)
			if n < 3 {
				if len(got) != 0 {
					t.Error(n, got)
				}
				continue
			}
			if len(got) != n {
				t.Fatal(n, len(got))
			}
			for i := range n {
				if want := sideOf(l[(i+n-1)%n], l[i], l[(i+1)%n]); got[i] != want {
					t.Error(n, i, got[i], want)
				}
			}
		}
	}
}

// P9.2

func TestOnAndWithin(t *testing.T) {
	for _, x := range []struct {
		a, b, p    api.Pt
		on, within bool
	}{
		{at(0, 0), at(2, 0), at(1, 0), true, true}, {at(0, 0), at(2, 0), at(0, 0), true, false}, {at(0, 0), at(2, 0), at(2, 0), true, false}, {at(0, 0), at(2, 0), at(3, 0), false, false}, {at(0, 0), at(2, 0), at(-1, 0), false, false},
		{at(0, 0), at(2, 0), at(1, 1), false, false}, {at(2, 0), at(0, 0), at(1, 0), true, true}, {at(2, 0), at(0, 0), at(3, 0), false, false}, {at(1, 5), at(1, 2), at(1, 4), true, true}, {at(1, 5), at(1, 2), at(1, 6), false, false}, {at(1, 5), at(1, 2), at(1, 1), false, false},
		{at(3, 3), at(3, 3), at(3, 3), true, false}, {at(3, 3), at(3, 3), at(3, 4), false, false}, {at(3, 3), at(3, 3), at(2, 3), false, false}, {at(3, 3), at(3, 3), at(-5, 4), false, false},
		{at(0, 0), at(3, 3), pt(1, 3, 2, 6), true, true}, {at(0, 0), at(3, 3), pt(-1, 3, -2, 6), false, false}, {at(0, 4), at(3, 1), at(1, 3), true, true}, {at(0, 4), at(3, 1), at(4, 0), false, false}, {at(0, 4), at(3, 1), at(-1, 5), false, false},
		{pt(4, 0, 1, 1), pt(6, 3, 4, 4), pt(3, 3, 9, 9), true, true}, {pt(4, 0, 1, 1), pt(6, 3, 4, 4), pt(7, 0, 9, 9), true, false}, {api.Pt{}, api.Pt{}, pt(3, 0, 0, 4), true, false},
	} {
		if on, within := side.On(x.a, x.b, x.p), side.Within(x.a, x.b, x.p); on != x.on || within != x.within {
			t.Error(x.a, x.b, x.p, on, within)
		}
	}
	all(func(a, b, p api.Pt) {
		on := onIt(a, b, p)
		within := on && !same(a, p) && !same(b, p)
		if side.On(a, b, p) != on || side.Within(a, b, p) != within {
			t.Fatal(a, b, p, on, within)
		}
	})
}

func TestBetween(t *testing.T) {
	for _, x := range []struct {
		lo, hi, r api.Rat
		want      bool
	}{
		{of(1, 1), of(3, 1), of(2, 1), true}, {of(1, 1), of(3, 1), of(1, 1), true}, {of(1, 1), of(3, 1), of(3, 1), true}, {of(1, 1), of(3, 1), of(10, 3), false}, {of(1, 1), of(3, 1), of(2, 3), false},
		{of(3, 1), of(1, 1), of(2, 1), false}, {of(3, 1), of(1, 1), of(1, 1), false}, {of(3, 1), of(1, 1), of(3, 1), false}, {of(2, 1), of(2, 1), of(4, 2), true}, {of(2, 1), of(2, 1), of(3, 1), false}, {of(2, 1), of(2, 1), of(1, 1), false},
		{of(-1, 1), of(1, 1), api.Rat{}, true}, {of(-1, 1), of(1, 1), of(9, 0), true}, {of(9, 0), of(1, 1), of(-1, 9), false}, {api.Rat{}, of(-9, 0), by(below(), 4), true}, {of(-3, 1), of(-1, 1), of(-2, 1), true}, {of(-1, 1), of(-3, 1), of(-2, 1), false},
	} {
		if got := side.Between(x.lo, x.hi, x.r); got != x.want {
			t.Error(x.lo, x.hi, x.r, got)
		}
	}
	all(func(a, b, p api.Pt) {
		for _, x := range [][3]api.Rat{{a.X, b.X, p.X}, {a.Y, b.X, p.Y}} {
			if want := less(x[0], x[2]).Sign() <= 0 && less(x[2], x[1]).Sign() <= 0; side.Between(x[0], x[1], x[2]) != want {
				t.Fatal(x, want)
			}
		}
	})
}

// P9.3

func TestStraight(t *testing.T) {
	for _, x := range []struct {
		a, b, p api.Pt
		want    bool
	}{
		{at(0, 0), at(2, 0), at(3, 0), true}, {at(0, 0), at(2, 0), at(2, 0), false}, {at(0, 0), at(2, 0), at(1, 0), false}, {at(0, 0), at(2, 0), at(0, 0), false}, {at(0, 0), at(2, 0), at(-1, 0), false}, {at(0, 0), at(2, 0), at(3, 1), false}, {at(0, 0), at(2, 0), at(3, -1), false},
		{at(2, 0), at(0, 0), at(-1, 0), true}, {at(2, 0), at(0, 0), at(3, 0), false}, {at(1, 1), at(1, 3), at(1, 4), true}, {at(1, 1), at(1, 3), at(1, 2), false}, {at(1, 3), at(1, 1), at(1, 0), true}, {at(0, 4), at(3, 1), at(4, 0), true}, {at(0, 4), at(3, 1), at(-1, 5), false},
		{at(3, 3), at(3, 3), at(4, 3), false}, {at(3, 3), at(3, 3), at(2, 3), false}, {at(3, 3), at(3, 3), at(3, 3), false}, {api.Pt{}, pt(1, 3, 1, 6), pt(2, 4, 1, 4), true}, {pt(7, 0, 1, 3), pt(0, 1, 2, 3), pt(9, 0, 3, 3), true},
	} {
		if got := side.Straight(x.a, x.b, x.p); got != x.want {
			t.Error(x.a, x.b, x.p, got)
		}
	}
	all(func(a, b, p api.Pt) {
		if want := !same(a, b) && sideOf(a, b, p) == 0 && dotOf(a, b, p) < 0; side.Straight(a, b, p) != want {
			t.Fatal(a, b, p, want)
		}
	})
}

func TestAlong(t *testing.T) {
	for _, x := range []struct {
		l    []api.Pt
		want bool
	}{
		{nil, true}, {[]api.Pt{}, true}, {[]api.Pt{at(1, 2)}, true}, {[]api.Pt{at(1, 2), at(3, 4)}, true}, {[]api.Pt{at(1, 2), at(1, 2)}, true}, {[]api.Pt{at(1, 2), at(1, 2), at(1, 2), pt(2, 2, 4, 2)}, true},
		{[]api.Pt{at(0, 0), at(2, 0), at(1, 0), at(-7, 0)}, true}, {[]api.Pt{at(0, 0), at(2, 0), at(1, 1)}, false}, {[]api.Pt{at(0, 0), at(2, 0), at(1, -1)}, false}, {[]api.Pt{at(0, 0), at(1, 1), at(0, 0), at(2, 2), at(0, 0)}, true},
		{[]api.Pt{at(0, 0), at(0, 0), at(1, 1), at(1, 1), at(2, 0), at(2, 0)}, false}, {[]api.Pt{at(0, 0), at(1, 1), at(0, 0), at(1, 2), at(0, 0)}, false}, {[]api.Pt{at(0, 0), at(0, 0), at(0, 0), at(1, 1), at(1, 1), at(1, 1), at(0, 1)}, false},
		{[]api.Pt{at(0, 0), at(1, 1), at(2, 2), at(3, 3), at(4, 5)}, false}, {[]api.Pt{at(4, 5), at(1, 1), at(2, 2), at(3, 3), at(0, 0)}, false}, {[]api.Pt{at(1, 1), at(2, 2), at(4, 5), at(3, 3), at(0, 0)}, false}, {[]api.Pt{pt(3, 0, 1, 2), pt(1, 2, 2, 4), {Y: of(-2, 15)}}, false},
		{[]api.Pt{at(0, 0), at(1, 0), at(0, 0), at(0, 1)}, false}, {[]api.Pt{at(0, 0), at(3, 1), at(6, 2), pt(1, 1, 1, 3), {X: of(5, 0)}, {}}, true},
	} {
		if got := side.Along(x.l...); got != x.want {
			t.Error(x.l, got)
		}
	}
	all(func(a, b, p api.Pt) {
		if got := side.Along(a, b, p); got != (sideOf(a, b, p) == 0) {
			t.Fatal(a, b, p, got)
		}
		want := sideOf(a, b, p) == 0 && (same(a, b) || sideOf(a, b, at(1, -2)) == 0) && sideOf(b, p, at(1, -2)) == 0 && sideOf(a, p, at(1, -2)) == 0
		if got := side.Along(a, a, b, p, b, at(1, -2), at(1, -2), a); got != want {
			t.Fatal(a, b, p, got)
		}
	})
}

// P9.4

func TestSideTurnedAbout(t *testing.T) {
	all(func(a, b, p api.Pt) {
		s := side.Side(a, b, p)
		if side.Side(b, p, a) != s || side.Side(p, a, b) != s {
			t.Fatal("in a ring", a, b, p)
		}
		if side.Side(b, a, p) != -s || side.Side(a, p, b) != -s || side.Side(p, b, a) != -s {
			t.Fatal("two in each other's place", a, b, p)
		}
	})
}

func TestSideMoved(t *testing.T) {
	for _, by := range []api.Pt{at(1, 0), at(-3, 7), pt(1, 3, -5, 7), odd()[8]} {
		all(func(a, b, p api.Pt) {
			ma, mb, mp := vec.Add(a, by), vec.Add(b, by), vec.Add(p, by)
			if side.Side(ma, mb, mp) != side.Side(a, b, p) || side.On(ma, mb, mp) != side.On(a, b, p) || side.Straight(ma, mb, mp) != side.Straight(a, b, p) {
				t.Fatal(a, b, p, by)
			}
		})
	}
}

func TestOnTurnedAbout(t *testing.T) {
	all(func(a, b, p api.Pt) {
		on := side.On(a, b, p)
		if side.On(b, a, p) != on || side.Within(b, a, p) != side.Within(a, b, p) {
			t.Fatal(a, b, p)
		}
		if on && !rat.Same(rat.Add(vec.Far(a, p), vec.Far(p, b)), vec.Far(a, b)) {
			t.Fatal("far", a, b, p)
		}
	})
}

// R1, R3, R4

// calls are all calls that take points; each answers what it tells as numbers.
func calls() map[string]func(a, b, p api.Pt) []int {
	return map[string]func(a, b, p api.Pt) []int{
		"Side":     func(a, b, p api.Pt) []int { return []int{side.Side(a, b, p)} },
		"Turns":    func(a, b, p api.Pt) []int { return side.Turns(a, b, b, p) },
		"On":       func(a, b, p api.Pt) []int { return truth(side.On(a, b, p)) },
		"Within":   func(a, b, p api.Pt) []int { return truth(side.Within(a, b, p)) },
		"Straight": func(a, b, p api.Pt) []int { return truth(side.Straight(a, b, p)) },
		"Along":    func(a, b, p api.Pt) []int { return truth(side.Along(a, b, b, p)) },
		"Between":  func(a, b, p api.Pt) []int { return truth(side.Between(a.X, b.Y, p.X)) },
	}
}

func truth(ok bool) []int {
	if ok {
		return []int{1}
	}
	return []int{0}
}

func copied(l []api.Pt) []api.Pt {
	all := make([]api.Pt, len(l))
	for i, p := range l {
		all[i] = api.Pt{X: copiedRat(p.X), Y: copiedRat(p.Y)}
	}
	return all
}

func copiedRat(r api.Rat) api.Rat {
	return api.Rat{Num: api.Int{Neg: r.Num.Neg, Abs: slices.Clone(r.Num.Abs)}, Den: slices.Clone(r.Den)}
}

func equal(a, b api.Rat) bool {
	return a.Num.Neg == b.Num.Neg && slices.Equal(a.Num.Abs, b.Num.Abs) && slices.Equal(a.Den, b.Den)
}

func sameList(x, y []api.Pt) bool {
	return slices.EqualFunc(x, y, func(a, b api.Pt) bool { return equal(a.X, b.X) && equal(a.Y, b.Y) })
}

// roomy is a point whose limbs are pieces of longer lists, so that what is written behind them shows.
func roomy(p api.Pt) (part, whole api.Pt) {
	part.X, whole.X = roomyRat(p.X)
	part.Y, whole.Y = roomyRat(p.Y)
	return part, whole
}

func roomyRat(r api.Rat) (part, whole api.Rat) {
	whole = api.Rat{Num: api.Int{Abs: append(slices.Clone(r.Num.Abs), 11, 22)}, Den: append(slices.Clone(r.Den), 33, 44)}
	part = api.Rat{Num: api.Int{Neg: r.Num.Neg, Abs: whole.Num.Abs[:len(r.Num.Abs)]}, Den: whole.Den[:len(r.Den)]}
	return part, whole
}

func TestWhatIsHandedInStays(t *testing.T) {
	for name, call := range calls() {
		threes(odd(), func(x, y, z api.Pt) {
			a, wholeA := roomy(x)
			b, wholeB := roomy(y)
			p, wholeP := roomy(z)
			l := []api.Pt{wholeA, wholeB, wholeP}
			kept := copied(l)
			got := call(a, b, p)
			if !sameList(l, kept) {
				t.Fatal(name, "changed", x, y, z)
			}
			if again := call(x, y, z); !slices.Equal(got, again) {
				t.Fatal(name, "answers otherwise", x, y, z, got, again)
			}
		})
	}
}

func TestListsStay(t *testing.T) {
	// With points that are alike side by side, as what takes them out must not do it in place.
	l := slices.Concat(odd(), odd()[:1], odd()[:1], odd(), []api.Pt{at(1, 1), at(1, 1), at(2, 2)})
	kept := copied(l)
	for n := range len(l) + 1 {
		side.Along(l[:n]...)
		side.Along(l[n:]...)
		got, other := side.Turns(l[:n]...), side.Turns(l[:n]...)
		want := slices.Clone(other)
		clear(got[:cap(got)])
		if !slices.Equal(other, want) {
			t.Fatal("answers memory twice", n)
		}
	}
	if !sameList(l, kept) {
		t.Error("changed")
	}
}
