package rat_test

import (
	"math"
	"math/big"
	"slices"
	"testing"

	"strait/api"
	"strait/rat"
	"strait/sint"
)

const (
	full = 1<<32 - 1
	half = 1 << 31
)

func above(limbs ...uint32) api.Int { return api.Int{Abs: limbs} }

func below(limbs ...uint32) api.Int { return api.Int{Neg: true, Abs: limbs} }

// by is a rational as it stands there, normalised or not.
func by(num api.Int, den ...uint32) api.Rat { return api.Rat{Num: num, Den: den} }

// of is a rational of little numbers, written as it is told if they have nothing in common and d is above nought.
func of(n int, d uint32) api.Rat { return by(sint.Of(n), d) }

// noughts are all forms of nought: with a numerator of nought, with a denominator of nought.
func noughts() []api.Rat {
	return []api.Rat{
		{}, by(above(), 1), by(above(), 0), by(below(), 1), by(below(0), 7), by(above(0, 0), 6, 0), by(below(0, 0), 0, 0), by(above([]uint32{}...), 0, 1), by(below(), full, full),
		by(above(5)), by(below(5)), by(above(5), 0), by(below(5, 0), 0, 0, 0), by(below(1, 2, 3), []uint32{}...), by(above(full, full), 0, 0),
	}
}

// numbers are noughts, ordinary ones and edges, with either sign, normalised or not: whole ones, halves, neighbours, one limb and more, limbs of nought last.
func numbers() []api.Rat {
	l := noughts()[:8:8]
	l = append(l, noughts()[9], noughts()[12])
	for _, x := range []struct{ num, den api.Nat }{
		{api.Nat{1}, api.Nat{1}}, {api.Nat{3}, api.Nat{3}}, {api.Nat{6, 0}, api.Nat{4, 0, 0}}, {api.Nat{2}, api.Nat{1}}, {api.Nat{1}, api.Nat{2}}, {api.Nat{1}, api.Nat{3}}, {api.Nat{3}, api.Nat{8}},
		{api.Nat{7}, api.Nat{12}}, {api.Nat{35}, api.Nat{60}}, {api.Nat{full}, api.Nat{full - 1}}, {api.Nat{full - 1}, api.Nat{full}}, {api.Nat{full, 0}, api.Nat{1}}, {api.Nat{1}, api.Nat{full}},
		{api.Nat{0, 1}, api.Nat{3}}, {api.Nat{1}, api.Nat{0, 2}}, {api.Nat{0, 6}, api.Nat{0, 4}}, {api.Nat{5, 9}, api.Nat{9, 5}}, {api.Nat{0, 0, 12}, api.Nat{0, 18}}, {api.Nat{full, full}, api.Nat{1, 0, 1}}, {api.Nat{12, 34, 56}, api.Nat{78, 90, 12, 0}},
	} {
		l = append(l, api.Rat{Num: api.Int{Abs: slices.Clone(x.num)}, Den: slices.Clone(x.den)}, api.Rat{Num: api.Int{Neg: true, Abs: slices.Clone(x.num)}, Den: slices.Clone(x.den)})
	}
	return l
}

// few are some of numbers, for what goes over three of them.
func few() []api.Rat {
	return []api.Rat{{}, by(below(5), 0), of(1, 1), of(-1, 1), by(below(6, 0), 4, 0), of(1, 3), of(-35, 60), by(above(full), full-1), by(below(0, 1), 3), by(above(0, 0, 12), 0, 18), by(below(1), 0, 2)}
}

// mixed are n limbs without order: the same ones each time.
func mixed(n int, seed uint64) api.Nat {
	a := make(api.Nat, n)
	x := seed
	for i := range a {
		x = x*6364136223846793005 + 1442695040888963407
		a[i] = uint32(x >> 32)
	}
	a[n-1] |= 1
	return a
}

func natValue(a api.Nat) *big.Int {
	bytes := make([]byte, 0, 4*len(a))
	for _, limb := range slices.Backward(a) {
		bytes = append(bytes, byte(limb>>24), byte(limb>>16), byte(limb>>8), byte(limb))
	}
	return new(big.Int).SetBytes(bytes)
}

// natOf is natValue's other way about.
func natOf(v *big.Int) api.Nat {
	var a api.Nat
	bytes := v.Bytes()
	slices.Reverse(bytes)
	for i, b := range bytes {
		if i%4 == 0 {
			a = append(a, 0)
		}
		a[i/4] |= uint32(b) << (i % 4 * 8)
	}
	return a
}

func intValue(a api.Int) *big.Int {
	v := natValue(a.Abs)
	if a.Neg {
		v.Neg(v)
	}
	return v
}

// value is what the words say that a rational counts as.
func value(r api.Rat) *big.Rat {
	den := natValue(r.Den)
	if den.Sign() == 0 {
		return new(big.Rat)
	}
	return new(big.Rat).SetFrac(intValue(r.Num), den)
}

// ofValue is value's other way about, as it is told.
func ofValue(v *big.Rat) api.Rat {
	return api.Rat{Num: api.Int{Neg: v.Sign() < 0, Abs: natOf(v.Num())}, Den: natOf(v.Denom())}
}

func isTrimmed(a api.Nat) bool { return len(a) == 0 || a[len(a)-1] != 0 }

// isTold: is it as rationals are told?
func isTold(r api.Rat) bool {
	num, den := natValue(r.Num.Abs), natValue(r.Den)
	common := new(big.Int).GCD(nil, nil, num, den)
	return isTrimmed(r.Num.Abs) && isTrimmed(r.Den) && den.Sign() > 0 && common.IsInt64() && common.Int64() == 1 && (!r.Num.Neg || num.Sign() > 0)
}

// equal: are they told alike, limb by limb?
func equal(a, b api.Rat) bool {
	return a.Num.Neg == b.Num.Neg && slices.Equal(a.Num.Abs, b.Num.Abs) && slices.Equal(a.Den, b.Den)
}

func wantValue(t *testing.T, got api.Rat, want *big.Rat, what ...any) {
	t.Helper()
	if isTold(got) && value(got).Cmp(want) == 0 {
		return
	}
	if len(got.Den) > 50 || len(got.Num.Abs) > 50 {
		t.Fatal("wrong, of limbs:", len(got.Num.Abs), len(got.Den))
	}
	t.Fatal(append(what, "got", got, "want", want)...)
}

func told(n int, d uint32) api.Rat { return api.Rat{Num: sint.Norm(sint.Of(n)), Den: api.Nat{d}} }

// P7.1

func TestNew(t *testing.T) {
	for _, x := range []struct {
		num  api.Int
		den  api.Nat
		want api.Rat
	}{
		{above(2), api.Nat{4}, told(1, 2)}, {below(2), api.Nat{4}, told(-1, 2)}, {above(4), api.Nat{2}, told(2, 1)}, {below(7, 0), api.Nat{7, 0}, told(-1, 1)}, {above(3), api.Nat{5}, told(3, 5)}, {above(1), api.Nat{1, 0, 0}, told(1, 1)},
		{api.Int{}, api.Nat{9}, told(0, 1)}, {below(), api.Nat{9}, told(0, 1)}, {below(0, 0), api.Nat{0, 9, 0}, told(0, 1)},
		{above(0, 3), api.Nat{0, 0, 6, 0}, by(above(1), 0, 2)}, {below(full, full), api.Nat{full}, by(below(1, 1), 1)}, {above(0, 1), api.Nat{full}, by(above(0, 1), full)},
	} {
		if got, e := rat.New(x.num, x.den); e != api.OK || !equal(got, x.want) {
			t.Error(x.num, x.den, got, e)
		}
	}
	for _, r := range numbers() {
		got, e := rat.New(r.Num, r.Den)
		wantValue(t, got, value(r), r)
		if (e == api.OK) != (natValue(r.Den).Sign() > 0) {
			t.Error(r, e)
		}
	}
}

func TestNewByNought(t *testing.T) {
	for _, num := range []api.Int{{}, above(0), below(), above(1), below(1), above(5, 0), below(0, 0, 1)} {
		for _, den := range []api.Nat{nil, {}, {0}, {0, 0, 0}} {
			if got, e := rat.New(num, den); e != api.ErrZero || !equal(got, told(0, 1)) {
				t.Error(num, den, got, e)
			}
		}
	}
}

func TestOf(t *testing.T) {
	for _, x := range []struct {
		n    int
		want api.Rat
	}{
		{0, told(0, 1)}, {1, told(1, 1)}, {-1, told(-1, 1)}, {-full, by(below(full), 1)}, {1 << 32, by(above(0, 1), 1)}, {math.MaxInt, by(above(full, half-1), 1)}, {math.MinInt, by(below(0, half), 1)},
	} {
		if got := rat.Of(x.n); !equal(got, x.want) {
			t.Error(x.n, got)
		}
	}
}

func TestNorm(t *testing.T) {
	for _, r := range noughts() {
		if got := rat.Norm(r); !equal(got, told(0, 1)) {
			t.Error(r, got)
		}
	}
	for _, x := range []struct{ r, want api.Rat }{
		{of(3, 5), told(3, 5)}, {of(6, 4), told(3, 2)}, {of(-6, 4), told(-3, 2)}, {of(-8, 2), told(-4, 1)}, {by(below(9, 0, 0), 6, 0), told(-3, 2)}, {by(above(0, 4), 0, 6), told(2, 3)}, {by(above(1), 0, 1), by(above(1), 0, 1)},
	} {
		if got := rat.Norm(x.r); !equal(got, x.want) {
			t.Error(x.r, got)
		}
	}
	for _, r := range numbers() {
		wantValue(t, rat.Norm(r), value(r), r)
	}
}

func TestSign(t *testing.T) {
	for _, r := range noughts() {
		if got := rat.Sign(r); got != 0 {
			t.Error(r, got)
		}
	}
	for _, x := range []struct {
		r    api.Rat
		want int
	}{
		{of(1, 9), 1}, {of(-1, 9), -1}, {by(above(half), full), 1}, {by(below(0, 1, 0), 2, 0), -1}, {by(above(5), 0, 1), 1}, {by(below(5), 0, 0, 1), -1},
	} {
		if got := rat.Sign(x.r); got != x.want {
			t.Error(x.r, got)
		}
	}
	for _, r := range numbers() {
		if got := rat.Sign(r); got != value(r).Sign() {
			t.Error(r, got)
		}
	}
}

func TestCmpAndSame(t *testing.T) {
	for _, x := range []struct {
		a, b api.Rat
		want int
	}{
		{of(1, 2), of(1, 3), 1}, {of(-1, 2), of(-1, 3), -1}, {of(1, 3), of(-1, 2), 1}, {of(-5, 1), of(1, 5), -1}, {of(2, 4), of(1, 2), 0}, {of(-2, 4), of(-3, 6), 0}, {of(3, 7), of(5, 7), -1}, {of(-3, 7), of(-5, 7), 1},
		{of(0, 5), by(below(7), 0), 0}, {of(1, 9), by(above(7), 0), 1}, {by(above(9)), of(-1, 9), 1}, {api.Rat{}, of(1, 9), -1}, {by(below()), api.Rat{}, 0},
		{of(2, 3), by(above(2, 0), 3, 0, 0), 0}, {by(above(full), full-1), by(above(full-1), full), 1}, {by(above(1), 0, 1), by(above(1), full), -1}, {by(below(1), 0, 1), by(below(1), full), 1}, {by(above(0, 1), 0, 3), of(1, 3), 0},
	} {
		if got := rat.Cmp(x.a, x.b); got != x.want || rat.Cmp(x.b, x.a) != -x.want || rat.Same(x.a, x.b) != (x.want == 0) {
			t.Error(x.a, x.b, got)
		}
	}
	for _, a := range append(numbers(), noughts()...) {
		for _, b := range append(numbers(), noughts()...) {
			if got, want := rat.Cmp(a, b), value(a).Cmp(value(b)); got != want || rat.Same(a, b) != (want == 0) {
				t.Error(a, b, got, want)
			}
		}
	}
}

// P7.2

func TestNeg(t *testing.T) {
	for _, r := range noughts() {
		if got := rat.Neg(r); !equal(got, told(0, 1)) {
			t.Error(r, got)
		}
	}
	for _, x := range []struct{ r, want api.Rat }{
		{of(3, 5), told(-3, 5)}, {of(-3, 5), told(3, 5)}, {of(6, 4), told(-3, 2)}, {by(below(0, 4, 0), 0, 6), told(2, 3)},
	} {
		if got := rat.Neg(x.r); !equal(got, x.want) {
			t.Error(x.r, got)
		}
	}
	for _, r := range numbers() {
		wantValue(t, rat.Neg(r), new(big.Rat).Neg(value(r)), r)
	}
}

func TestAdd(t *testing.T) {
	for _, x := range []struct {
		l    []api.Rat
		want api.Rat
	}{
		{nil, told(0, 1)}, {[]api.Rat{}, told(0, 1)}, {noughts(), told(0, 1)}, {[]api.Rat{by(below(3), 0)}, told(0, 1)}, {[]api.Rat{of(6, 4)}, told(3, 2)}, {[]api.Rat{of(-6, 4)}, told(-3, 2)},
		{[]api.Rat{of(1, 2), of(1, 3)}, told(5, 6)}, {[]api.Rat{of(1, 2), of(-1, 2)}, told(0, 1)}, {[]api.Rat{of(1, 6), of(1, 3)}, told(1, 2)}, {[]api.Rat{of(3, 8), of(1, 8)}, told(1, 2)}, {[]api.Rat{of(1, 2), of(-2, 3)}, told(-1, 6)},
		{[]api.Rat{of(1, 2), of(1, 3), of(1, 6)}, told(1, 1)}, {[]api.Rat{of(1, 2), of(1, 3), of(-1, 6), of(2, 4)}, told(7, 6)}, {[]api.Rat{of(1, 2), {}, by(above(9), 0), of(1, 3), by(below(0), 5)}, told(5, 6)},
		{[]api.Rat{by(above(full), 1), of(1, 1)}, by(above(0, 1), 1)}, {[]api.Rat{by(above(1), 0, 1), by(below(1), full)}, by(below(1), 0, full)},
	} {
		if got := rat.Add(x.l...); !equal(got, x.want) {
			t.Error(x.l, got)
		}
	}
	for _, a := range numbers() {
		wantValue(t, rat.Add(a), value(a), a)
		for _, b := range numbers() {
			wantValue(t, rat.Add(a, b), new(big.Rat).Add(value(a), value(b)), a, b)
		}
	}
}

func TestAddOfThree(t *testing.T) {
	for _, a := range few() {
		for _, b := range few() {
			for _, c := range few() {
				want := new(big.Rat).Add(value(a), value(b))
				wantValue(t, rat.Add(a, b, c), want.Add(want, value(c)), a, b, c)
			}
		}
	}
}

// many are so many numbers of both signs, of like and of unlike denominators, some nought, some not normalised.
func many(n int) []api.Rat {
	var l []api.Rat
	for i := range n {
		switch i % 5 {
		case 0:
			l = append(l, of(i-n/2, uint32(i+1)))
		case 1:
			l = append(l, by(above(uint32(i), 3), 1<<20))
		case 2:
			l = append(l, by(below(6*uint32(i), 0), 9, 0))
		case 3:
			l = append(l, by(sint.Of(1-i), uint32(i*i+1), uint32(i%2)))
		default:
			l = append(l, by(above(uint32(i)), 0, 0))
		}
	}
	return l
}

func TestAddOfMany(t *testing.T) {
	for _, n := range []int{4, 5, 6, 7, 8, 9, 16, 17, 31, 100, 400} {
		want := new(big.Rat)
		for _, r := range many(n) {
			want.Add(want, value(r))
		}
		wantValue(t, rat.Add(many(n)...), want, n)
	}
}

func TestAddOfManyOfOneDenominator(t *testing.T) {
	den := mixed(40, 3)
	l := make([]api.Rat, 1<<12)
	sum := new(big.Int)
	for i := range l {
		l[i] = api.Rat{Num: sint.Of(i*i - 1000), Den: slices.Clone(den)}
		l[i].Den = append(l[i].Den, make(api.Nat, i%3)...)
		sum.Add(sum, intValue(l[i].Num))
	}
	wantValue(t, rat.Add(l...), new(big.Rat).SetFrac(sum, natValue(den)))
	for i := range l {
		// No two are of one denominator, but all of these are divisors of one number.
		l[i].Den = natOf(new(big.Int).Mul(natValue(den), big.NewInt(int64(1)<<(i%50))))
	}
	want := new(big.Rat)
	for _, r := range l {
		want.Add(want, value(r))
	}
	wantValue(t, rat.Add(l...), want)
}

func TestAddOfVeryMany(t *testing.T) {
	// 1 by n times (n + 1) is 1 by n less 1 by n + 1.
	const n = 1 << 14
	l := make([]api.Rat, 0, n+1)
	for i := 1; i <= n; i++ {
		l = append(l, of(1, uint32(i*(i+1))))
	}
	if got := rat.Add(l...); !equal(got, told(n, n+1)) {
		t.Error(len(got.Num.Abs), len(got.Den))
	}
	if got := rat.Add(append(l, told(1, n+1))...); !equal(got, told(1, 1)) {
		t.Error(len(got.Num.Abs), len(got.Den))
	}
}

func TestSub(t *testing.T) {
	for _, x := range []struct{ a, b, want api.Rat }{
		{of(1, 2), of(1, 3), told(1, 6)}, {of(1, 3), of(1, 2), told(-1, 6)}, {of(1, 3), of(-1, 2), told(5, 6)}, {of(-1, 3), of(1, 2), told(-5, 6)}, {of(2, 4), of(1, 2), told(0, 1)}, {of(5, 6), of(1, 6), told(2, 3)},
		{api.Rat{}, of(1, 2), told(-1, 2)}, {api.Rat{}, of(-1, 2), told(1, 2)}, {of(-2, 4), by(above(7), 0), told(-1, 2)}, {by(below(7), 0), by(below(0), 9), told(0, 1)},
	} {
		if got := rat.Sub(x.a, x.b); !equal(got, x.want) {
			t.Error(x.a, x.b, got)
		}
	}
	for _, a := range numbers() {
		for _, b := range numbers() {
			wantValue(t, rat.Sub(a, b), new(big.Rat).Sub(value(a), value(b)), a, b)
		}
	}
}

func TestMul(t *testing.T) {
	for _, x := range []struct {
		l    []api.Rat
		want api.Rat
	}{
		{nil, told(1, 1)}, {[]api.Rat{}, told(1, 1)}, {noughts(), told(0, 1)}, {[]api.Rat{by(below(3), 0)}, told(0, 1)}, {[]api.Rat{of(6, 4)}, told(3, 2)}, {[]api.Rat{of(-6, 4)}, told(-3, 2)},
		{[]api.Rat{of(2, 3), of(9, 4)}, told(3, 2)}, {[]api.Rat{of(-2, 3), of(9, 4)}, told(-3, 2)}, {[]api.Rat{of(-2, 3), of(-9, 4)}, told(3, 2)}, {[]api.Rat{of(2, 3), of(3, 2)}, told(1, 1)},
		{[]api.Rat{of(1, 2), of(-2, 3), of(3, 4)}, told(-1, 4)}, {[]api.Rat{of(1, 2), of(-2, 3), of(3, 4), of(-4, 5), of(-5, 6)}, told(-1, 6)}, {[]api.Rat{of(-1, 2), by(below(5), 0), of(1, 3)}, told(0, 1)}, {[]api.Rat{of(-1, 2), {}}, told(0, 1)},
		{[]api.Rat{by(above(full), 2), by(above(full), 3)}, by(above(0xAAAAAAAB, 0x55555554), 2)}, {[]api.Rat{by(below(0, 1), 5), by(above(5), 0, 1)}, told(-1, 1)},
	} {
		if got := rat.Mul(x.l...); !equal(got, x.want) {
			t.Error(x.l, got)
		}
	}
	for _, a := range numbers() {
		wantValue(t, rat.Mul(a), value(a), a)
		for _, b := range numbers() {
			wantValue(t, rat.Mul(a, b), new(big.Rat).Mul(value(a), value(b)), a, b)
		}
	}
}

func TestMulOfThree(t *testing.T) {
	for _, a := range few() {
		for _, b := range few() {
			for _, c := range few() {
				want := new(big.Rat).Mul(value(a), value(b))
				wantValue(t, rat.Mul(a, b, c), want.Mul(want, value(c)), a, b, c)
			}
		}
	}
}

func TestMulOfMany(t *testing.T) {
	for _, n := range []int{4, 5, 6, 7, 8, 9, 16, 17, 31, 100, 1000} {
		var l []api.Rat
		want := big.NewRat(1, 1)
		for _, r := range many(n) {
			if value(r).Sign() != 0 {
				l = append(l, r)
				want.Mul(want, value(r))
			}
		}
		wantValue(t, rat.Mul(l...), want, n)
		if got := rat.Mul(append(l, by(above(1), 0))...); !equal(got, told(0, 1)) {
			t.Error(n, len(got.Num.Abs), len(got.Den))
		}
	}
}

func TestMulOfVeryMany(t *testing.T) {
	const n = 1 << 14
	l := make([]api.Rat, 0, n)
	for i := 1; i <= n; i++ {
		l = append(l, of(-i, uint32(i+1)))
	}
	if got := rat.Mul(l...); !equal(got, told(1, n+1)) {
		t.Error(len(got.Num.Abs), len(got.Den))
	}
}

func TestQuo(t *testing.T) {
	for _, x := range []struct{ a, b, want api.Rat }{
		{of(1, 2), of(1, 3), told(3, 2)}, {of(-1, 2), of(1, 3), told(-3, 2)}, {of(1, 2), of(-1, 3), told(-3, 2)}, {of(-1, 2), of(-1, 3), told(3, 2)}, {of(6, 4), of(6, 4), told(1, 1)}, {of(-6, 4), by(above(3, 0), 2, 0), told(-1, 1)},
		{api.Rat{}, of(-1, 3), told(0, 1)}, {by(below(4), 0), of(1, 3), told(0, 1)}, {of(4, 1), of(6, 1), told(2, 3)}, {of(1, 1), by(below(0, 1), 3), by(below(3), 0, 1)},
	} {
		if got, e := rat.Quo(x.a, x.b); e != api.OK || !equal(got, x.want) {
			t.Error(x.a, x.b, got, e)
		}
	}
	for _, a := range numbers() {
		for _, b := range numbers() {
			if value(b).Sign() == 0 {
				continue
			}
			got, e := rat.Quo(a, b)
			wantValue(t, got, new(big.Rat).Quo(value(a), value(b)), a, b)
			if e != api.OK {
				t.Error(a, b, e)
			}
		}
	}
}

func TestQuoByNought(t *testing.T) {
	for _, a := range append(numbers(), noughts()...) {
		for _, b := range noughts() {
			if got, e := rat.Quo(a, b); e != api.ErrZero || !equal(got, told(0, 1)) {
				t.Error(a, b, got, e)
			}
		}
	}
}

func TestMid(t *testing.T) {
	for _, x := range []struct{ a, b, want api.Rat }{
		{of(1, 2), of(1, 3), told(5, 12)}, {of(1, 1), of(3, 1), told(2, 1)}, {of(1, 1), of(2, 1), told(3, 2)}, {of(-3, 1), of(5, 1), told(1, 1)}, {of(3, 4), of(-3, 4), told(0, 1)}, {of(-6, 4), of(-3, 2), told(-3, 2)}, {api.Rat{}, of(1, 2), told(1, 4)}, {by(above(8), 0), of(-6, 1), told(-3, 1)}, {api.Rat{}, by(below(0), 3), told(0, 1)},
	} {
		if got := rat.Mid(x.a, x.b); !equal(got, x.want) {
			t.Error(x.a, x.b, got)
		}
	}
	for _, a := range numbers() {
		for _, b := range numbers() {
			want := new(big.Rat).Add(value(a), value(b))
			wantValue(t, rat.Mid(a, b), want.Quo(want, big.NewRat(2, 1)), a, b)
		}
	}
}

// P7.3

// floor is the greatest integer that is not above v.
func floor(v *big.Rat) *big.Int { return new(big.Int).Div(v.Num(), v.Denom()) }

func TestFloor(t *testing.T) {
	for _, x := range []struct {
		r    api.Rat
		want int
	}{
		{of(-1, 2), -1}, {of(1, 2), 0}, {of(7, 2), 3}, {of(-7, 2), -4}, {of(6, 2), 3}, {of(-6, 2), -3}, {of(5, 1), 5}, {of(-5, 1), -5}, {of(1, full), 0}, {of(-1, full), -1}, {by(below(7, 0), 2, 0, 0), -4}, {by(above(0, 7), 0, 2), 3}, {by(below(1), 0, 0, 1), -1}, {of(99, 100), 0}, {of(-99, 100), -1}, {of(-100, 100), -1}, {of(-101, 100), -2},
	} {
		if n, ok := sint.Small(rat.Floor(x.r)); !ok || n != x.want {
			t.Error(x.r, n, ok)
		}
	}
	for _, r := range noughts() {
		if got := rat.Floor(r); got.Neg || len(got.Abs) > 0 {
			t.Error(r, got)
		}
	}
	for _, r := range numbers() {
		got := rat.Floor(r)
		if !isTrimmed(got.Abs) || got.Neg && len(got.Abs) == 0 || intValue(got).Cmp(floor(value(r))) != 0 {
			t.Error(r, got)
		}
	}
}

// simplest is what the words say: power of two by power of two, from 1 on, the integer nearest to nought of those strictly between.
func simplest(lo, hi *big.Rat) *big.Rat {
	one := big.NewInt(1)
	for power := big.NewInt(1); ; power = new(big.Int).Lsh(power, 1) {
		scale := new(big.Rat).SetInt(power)
		least := floor(new(big.Rat).Mul(lo, scale))
		least.Add(least, one)
		greatest := floor(new(big.Rat).Neg(new(big.Rat).Mul(hi, scale)))
		greatest.Add(greatest, one).Neg(greatest)
		k := new(big.Int)
		switch {
		case least.Cmp(greatest) > 0:
			continue
		case least.Sign() > 0:
			k = least
		case greatest.Sign() < 0:
			k = greatest
		}
		return new(big.Rat).SetFrac(k, power)
	}
}

func TestBetween(t *testing.T) {
	for _, x := range []struct{ lo, hi, want api.Rat }{
		{of(1, 3), of(1, 2), told(3, 8)}, {of(-1, 2), of(-1, 3), told(-3, 8)}, {of(-3, 1), of(5, 1), told(0, 1)}, {of(0, 1), of(1, 1), told(1, 2)}, {of(-1, 1), of(0, 1), told(-1, 2)}, {of(0, 1), of(2, 1), told(1, 1)}, {of(-2, 1), of(0, 1), told(-1, 1)},
		{of(0, 1), of(1, 2), told(1, 4)}, {of(0, 1), of(1, 3), told(1, 4)}, {of(-1, 3), of(0, 1), told(-1, 4)}, {of(1, 2), of(1, 1), told(3, 4)}, {of(3, 1), of(9, 1), told(4, 1)}, {of(-9, 1), of(-3, 1), told(-4, 1)}, {of(5, 2), of(9, 1), told(3, 1)}, {of(-9, 1), of(-5, 2), told(-3, 1)},
		{of(3, 1), of(4, 1), told(7, 2)}, {of(7, 2), of(4, 1), told(15, 4)}, {of(7, 1), of(17, 2), told(8, 1)}, {of(7, 1), of(8, 1), told(15, 2)}, {of(-8, 1), of(-7, 1), told(-15, 2)}, {of(-1, full), of(1, full), told(0, 1)}, {of(-1, full), of(9, 1), told(0, 1)},
		{of(1, 5), of(4, 5), told(1, 2)}, {of(1, 5), of(1, 2), told(1, 4)}, {of(1, 4), of(3, 4), told(1, 2)}, {of(1, 2), of(3, 2), told(1, 1)}, {api.Rat{}, by(above(1), 0, 1), by(above(1), 0, 2)}, {by(below(1), 0, 1), by(above(5), 0), by(below(1), 0, 2)}, {by(below(0), 4), of(6, 4), told(1, 1)}, {by(above(2, 0), 6, 0), of(2, 4), told(3, 8)},
		{by(above(full), 1), by(above(0, 1), 1), by(above(full, 1), 2)}, {by(above(full), 1), by(above(1, 1), 1), by(above(0, 1), 1)}, {by(above(full-1), full), of(1, 1), by(above(full), 0, 1)},
	} {
		if got, ok := rat.Between(x.lo, x.hi); !ok || !equal(got, x.want) {
			t.Error(x.lo, x.hi, got, ok)
		}
	}
}

func TestBetweenOfNoneBetween(t *testing.T) {
	for _, x := range []struct{ lo, hi api.Rat }{
		{of(1, 2), of(1, 2)}, {of(1, 2), of(2, 4)}, {of(1, 2), of(1, 3)}, {of(-1, 3), of(-1, 2)}, {of(1, 9), of(-1, 9)}, {of(1, 9), of(0, 1)}, {of(0, 1), of(-1, 9)}, {api.Rat{}, api.Rat{}}, {by(above(7), 0), by(above(9), 0)}, {by(below(0), 3), api.Rat{}}, {of(1, 1), by(above(9), 0)}, {by(above(0, 0, 1), 1), by(above(full, full), 1)},
	} {
		if got, ok := rat.Between(x.lo, x.hi); ok || !equal(got, told(0, 1)) {
			t.Error(x.lo, x.hi, got, ok)
		}
	}
}

func wantBetween(t *testing.T, lo, hi api.Rat) {
	t.Helper()
	got, ok := rat.Between(lo, hi)
	if value(lo).Cmp(value(hi)) >= 0 {
		if ok || !equal(got, told(0, 1)) {
			t.Fatal(lo, hi, got, ok)
		}
		return
	}
	if !ok {
		t.Fatal(lo, hi, "none")
	}
	wantValue(t, got, simplest(value(lo), value(hi)), lo, hi)
}

func TestBetweenOfAll(t *testing.T) {
	for _, a := range append(numbers(), noughts()...) {
		for _, b := range append(numbers(), noughts()...) {
			wantBetween(t, a, b)
		}
	}
}

func TestBetweenOfLittleOnes(t *testing.T) {
	var l []api.Rat
	for d := uint32(1); d <= 9; d++ {
		for n := -20; n <= 20; n++ {
			l = append(l, of(n, d))
		}
	}
	for _, a := range l {
		for _, b := range l {
			wantBetween(t, a, b)
		}
	}
}

func TestBetweenOfNeighbours(t *testing.T) {
	for n := 1; n <= 12; n++ {
		for i := range 20 {
			num, den := mixed(n, uint64(i)), mixed(1+i%9, uint64(7*i+1))
			low := api.Rat{Num: api.Int{Neg: i%2 > 0, Abs: num}, Den: den}
			for _, far := range []api.Rat{by(above(1), 7), by(above(1), 0, 0, 0, 1), api.Rat{Num: above(3), Den: mixed(1+i%5, 5)}, api.Rat{Num: above(1), Den: den}} {
				wantBetween(t, low, rat.Add(low, far))
				wantBetween(t, rat.Sub(low, far), low)
			}
		}
	}
}

// Powers of two that are beyond the bound of one shift.
func TestBetweenOfVeryNear(t *testing.T) {
	for _, k := range []int{31, 32, 33, 63, 64, 65, 1000, api.MaxShift - 1, api.MaxShift, api.MaxShift + 1, 3*api.MaxShift + 5} {
		power := new(big.Int).Lsh(big.NewInt(1), uint(k))
		near := ofValue(new(big.Rat).SetFrac(big.NewInt(1), power))
		half := new(big.Rat).SetFrac(big.NewInt(1), new(big.Int).Lsh(power, 1))
		for _, n := range []int{0, 1, -1, 6} {
			whole := rat.Of(n)
			got, ok := rat.Between(whole, rat.Add(whole, near))
			wantValue(t, got, new(big.Rat).Add(value(whole), half), n, k)
			if !ok {
				t.Error(n, k)
			}
			got, ok = rat.Between(rat.Sub(whole, near), whole)
			wantValue(t, got, new(big.Rat).Sub(value(whole), half), n, k)
			if !ok {
				t.Error(n, k)
			}
			if got, ok = rat.Between(rat.Sub(whole, near), rat.Add(whole, near)); !ok || !equal(got, whole) {
				t.Error(n, k, ok)
			}
		}
	}
}

func TestBetweenOfLongOnes(t *testing.T) {
	a, b := mixed(3000, 1), mixed(3000, 2)
	lo := api.Rat{Num: api.Int{Abs: a}, Den: b}
	v := value(lo)
	hi := ofValue(new(big.Rat).SetFrac(new(big.Int).Add(v.Num(), big.NewInt(1)), v.Denom()))
	got, ok := rat.Between(lo, hi)
	if !ok || !isTold(got) || value(got).Cmp(v) <= 0 || value(got).Cmp(value(hi)) >= 0 {
		t.Fatal("wrong, of limbs:", len(got.Num.Abs), len(got.Den))
	}
	// With half the power of two there is none: its neighbours are not strictly between.
	den := new(big.Int).Rsh(natValue(got.Den), 1)
	scale := new(big.Rat).SetInt(den)
	next := new(big.Int).Add(floor(new(big.Rat).Mul(v, scale)), big.NewInt(1))
	if new(big.Rat).SetFrac(next, den).Cmp(value(hi)) < 0 {
		t.Error("not the simplest one, of limbs:", len(got.Den))
	}
}

// P7.4

func TestSumsAndProductsInWhateverOrder(t *testing.T) {
	for _, a := range few() {
		for _, b := range few() {
			for _, c := range few() {
				sum, product := rat.Add(a, b, c), rat.Mul(a, b, c)
				for _, other := range []api.Rat{rat.Add(c, b, a), rat.Add(b, a, c), rat.Add(rat.Add(a, b), c), rat.Add(a, rat.Add(b, c))} {
					if !equal(sum, other) {
						t.Fatal("sum", a, b, c)
					}
				}
				for _, other := range []api.Rat{rat.Mul(c, b, a), rat.Mul(b, a, c), rat.Mul(rat.Mul(a, b), c), rat.Mul(a, rat.Mul(b, c))} {
					if !equal(product, other) {
						t.Fatal("product", a, b, c)
					}
				}
			}
		}
	}
	l := many(60)
	sum := rat.Add(l...)
	slices.Reverse(l)
	if !equal(sum, rat.Add(l...)) {
		t.Error("the sum of many hangs on their order")
	}
}

func TestTheProductOfASumIsTheSumOfProducts(t *testing.T) {
	for _, a := range few() {
		for _, b := range few() {
			for _, c := range few() {
				if !equal(rat.Mul(rat.Add(a, b), c), rat.Add(rat.Mul(a, c), rat.Mul(b, c))) {
					t.Fatal(a, b, c)
				}
			}
		}
	}
}

func TestANumberAndItsContraries(t *testing.T) {
	for _, a := range append(numbers(), api.Rat{Num: api.Int{Neg: true, Abs: mixed(50, 1)}, Den: mixed(60, 2)}) {
		neg := rat.Neg(a)
		if !equal(rat.Add(a, neg), told(0, 1)) || !equal(rat.Sub(a, a), told(0, 1)) || !equal(rat.Neg(neg), rat.Norm(a)) || !equal(neg, rat.Mul(a, rat.Of(-1))) || !equal(rat.Sub(api.Rat{}, a), neg) {
			t.Error(a, neg)
		}
		if !equal(rat.Add(a), rat.Norm(a)) || !equal(rat.Mul(a), rat.Norm(a)) || !equal(rat.Add(a, by(below(1), 0)), rat.Norm(a)) || !equal(rat.Mul(a, of(3, 3)), rat.Norm(a)) || !equal(rat.Mid(a, a), rat.Norm(a)) {
			t.Error(a)
		}
		got, e := rat.Quo(a, a)
		if rat.Sign(a) == 0 {
			continue
		}
		if e != api.OK || !equal(got, told(1, 1)) {
			t.Error(a, got, e)
		}
		contrary, _ := rat.Quo(rat.Of(1), a)
		if !equal(rat.Mul(a, contrary), told(1, 1)) {
			t.Error(a, contrary)
		}
	}
}

func TestQuotientTimesDivisorIsTheNumber(t *testing.T) {
	for _, a := range numbers() {
		for _, b := range numbers() {
			if q, e := rat.Quo(a, b); e == api.OK && !equal(rat.Mul(q, b), rat.Norm(a)) {
				t.Error(a, b, q)
			}
			if !equal(rat.Add(rat.Sub(a, b), b), rat.Norm(a)) || !equal(rat.Sub(rat.Mid(a, b), a), rat.Sub(b, rat.Mid(a, b))) {
				t.Error(a, b)
			}
		}
	}
}

func TestOrderIsKept(t *testing.T) {
	for _, a := range few() {
		for _, b := range few() {
			order := rat.Cmp(a, b)
			if order != rat.Sign(rat.Sub(a, b)) || order != rat.Cmp(rat.Neg(b), rat.Neg(a)) {
				t.Fatal(a, b, order)
			}
			for _, c := range few() {
				if rat.Cmp(rat.Add(a, c), rat.Add(b, c)) != order || rat.Cmp(rat.Mul(a, c), rat.Mul(b, c)) != order*rat.Sign(c) {
					t.Fatal(a, b, c)
				}
			}
		}
	}
}

func TestTheSameNumbersAreToldAlike(t *testing.T) {
	for _, a := range numbers() {
		for _, b := range numbers() {
			if rat.Same(a, b) != equal(rat.Norm(a), rat.Norm(b)) {
				t.Error(a, b)
			}
		}
		for _, k := range []uint32{1, 2, 7, half, full} {
			v := big.NewInt(int64(k))
			other := api.Rat{Num: api.Int{Neg: a.Num.Neg, Abs: append(natOf(v.Mul(v, natValue(a.Num.Abs))), 0)}, Den: append(natOf(new(big.Int).Mul(big.NewInt(int64(k)), natValue(a.Den))), 0, 0)}
			if !rat.Same(a, other) || !equal(rat.Norm(a), rat.Norm(other)) || !equal(rat.Add(a, of(1, 3)), rat.Add(other, of(2, 6))) {
				t.Error(a, other)
			}
		}
	}
}

func TestWhatIsBetweenLiesBetween(t *testing.T) {
	for _, a := range numbers() {
		for _, b := range numbers() {
			r, ok := rat.Between(a, b)
			if ok != (rat.Cmp(a, b) < 0) || ok && (rat.Cmp(a, r) >= 0 || rat.Cmp(r, b) >= 0) {
				t.Fatal(a, b, r, ok)
			}
			other, _ := rat.Between(rat.Neg(b), rat.Neg(a))
			if !equal(r, rat.Neg(other)) {
				t.Fatal(a, b, r, other)
			}
		}
	}
}

// R1, R3, R4

// calls are all calls that take rationals; each answers what it tells as rationals.
func calls() map[string]func(a, b api.Rat) []api.Rat {
	return map[string]func(a, b api.Rat) []api.Rat{
		"New":        func(a, b api.Rat) []api.Rat { r, e := rat.New(a.Num, b.Den); return []api.Rat{r, rat.Of(int(e))} },
		"Norm":       func(a, b api.Rat) []api.Rat { return []api.Rat{rat.Norm(a)} },
		"Sign":       func(a, b api.Rat) []api.Rat { return []api.Rat{rat.Of(rat.Sign(a))} },
		"Cmp":        func(a, b api.Rat) []api.Rat { return []api.Rat{rat.Of(rat.Cmp(a, b)), truth(rat.Same(a, b))} },
		"Neg":        func(a, b api.Rat) []api.Rat { return []api.Rat{rat.Neg(a)} },
		"Add":        func(a, b api.Rat) []api.Rat { return []api.Rat{rat.Add(a, b)} },
		"Add of one": func(a, b api.Rat) []api.Rat { return []api.Rat{rat.Add(a)} },
		"Add of all": func(a, b api.Rat) []api.Rat { return []api.Rat{rat.Add(a, b, api.Rat{}, b, a)} },
		"Sub":        func(a, b api.Rat) []api.Rat { return []api.Rat{rat.Sub(a, b)} },
		"Mul":        func(a, b api.Rat) []api.Rat { return []api.Rat{rat.Mul(a, b)} },
		"Mul of one": func(a, b api.Rat) []api.Rat { return []api.Rat{rat.Mul(a)} },
		"Mul of all": func(a, b api.Rat) []api.Rat { return []api.Rat{rat.Mul(a, b, rat.Of(1), b)} },
		"Quo":        func(a, b api.Rat) []api.Rat { r, e := rat.Quo(a, b); return []api.Rat{r, rat.Of(int(e))} },
		"Mid":        func(a, b api.Rat) []api.Rat { return []api.Rat{rat.Mid(a, b)} },
		"Floor":      func(a, b api.Rat) []api.Rat { return []api.Rat{{Num: rat.Floor(a)}} },
		"Between":    func(a, b api.Rat) []api.Rat { r, ok := rat.Between(a, b); return []api.Rat{r, truth(ok)} },
	}
}

func truth(ok bool) api.Rat {
	if ok {
		return rat.Of(1)
	}
	return rat.Of(0)
}

func same(x, y []api.Rat) bool { return slices.EqualFunc(x, y, equal) }

func copied(l []api.Rat) []api.Rat {
	all := make([]api.Rat, len(l))
	for i, r := range l {
		all[i] = api.Rat{Num: api.Int{Neg: r.Num.Neg, Abs: slices.Clone(r.Num.Abs)}, Den: slices.Clone(r.Den)}
	}
	return all
}

// roomy is a number whose limbs are pieces of longer lists, so that what is written behind them shows.
func roomy(r api.Rat) (part, whole api.Rat) {
	whole = api.Rat{Num: api.Int{Abs: append(slices.Clone(r.Num.Abs), 11, 22)}, Den: append(slices.Clone(r.Den), 33, 44)}
	part = api.Rat{Num: api.Int{Neg: r.Num.Neg, Abs: whole.Num.Abs[:len(r.Num.Abs)]}, Den: whole.Den[:len(r.Den)]}
	return part, whole
}

func TestWhatIsHandedInStays(t *testing.T) {
	for name, call := range calls() {
		for _, x := range append(numbers(), noughts()...) {
			for _, y := range append(numbers(), noughts()...) {
				a, wholeA := roomy(x)
				b, wholeB := roomy(y)
				l := []api.Rat{wholeA, wholeB}
				kept := copied(l)
				got := call(a, b)
				want := copied(got)
				if !same(l, kept) {
					t.Fatal(name, "changed", x, y)
				}
				for _, r := range l {
					clear(r.Num.Abs)
					clear(r.Den)
				}
				if !same(got, want) {
					t.Fatal(name, "answers memory that was handed in", x, y)
				}
			}
		}
	}
}

// parts are all limbs of what is told, with the room behind them.
func parts(l []api.Rat) []api.Nat {
	var all []api.Nat
	for _, r := range l {
		all = append(all, r.Num.Abs[:cap(r.Num.Abs)], r.Den[:cap(r.Den)])
	}
	return all
}

func TestAnswersAreNew(t *testing.T) {
	for name, call := range calls() {
		for _, a := range numbers() {
			for _, b := range numbers() {
				want, two := copied(call(a, b)), call(a, b)
				for i := range parts(two) {
					one := call(a, b)
					room := parts(one)
					kept := slices.Clone(room[i])
					for j := range room[i] {
						room[i][j] = 77
					}
					other := parts(one)
					copy(other[i], kept)
					if !same(one, want) || !same(two, want) {
						t.Fatal(name, "answers memory twice", a, b)
					}
				}
				for i, room := range parts(two) {
					for j, others := range parts(two) {
						if i != j && len(room) > 0 && len(others) > 0 && &room[len(room)-1] == &others[len(others)-1] {
							t.Fatal(name, "answers two that share memory", a, b)
						}
					}
				}
			}
		}
	}
}

func TestListsStay(t *testing.T) {
	l := []api.Rat{of(-6, 4), {}, by(below(5), 0), of(2, 2), by(above(6, 0, 6), 3, 0), of(1, 3), of(1, 7)}
	kept := copied(l)
	for n := range l {
		rat.Add(l[:n]...)
		rat.Mul(l[:n]...)
	}
	if !same(l, kept) {
		t.Error(l)
	}
}

func TestAllFormsOfNoughtAreTheSame(t *testing.T) {
	for name, call := range calls() {
		for _, a := range numbers() {
			for _, nought := range noughts() {
				if name == "New" {
					continue // it takes a denominator apart
				}
				if !same(call(a, api.Rat{}), call(a, nought)) || !same(call(api.Rat{}, a), call(nought, a)) {
					t.Error(name, a, nought)
				}
			}
		}
	}
}

// It is enough that they end, with a number as it is told.
func TestLongOnes(t *testing.T) {
	a := api.Rat{Num: api.Int{Abs: mixed(2000, 1)}, Den: mixed(1500, 2)}
	b := api.Rat{Num: api.Int{Neg: true, Abs: mixed(1800, 3)}, Den: mixed(2000, 4)}
	x, y := value(a), value(b)
	wantValue(t, rat.Add(a, b), new(big.Rat).Add(x, y))
	wantValue(t, rat.Sub(a, b), new(big.Rat).Sub(x, y))
	wantValue(t, rat.Mul(a, b), new(big.Rat).Mul(x, y))
	q, _ := rat.Quo(a, b)
	wantValue(t, q, new(big.Rat).Quo(x, y))
	if rat.Cmp(a, b) != 1 || rat.Cmp(b, a) != -1 || rat.Cmp(q, q) != 0 {
		t.Error("order")
	}
	if intValue(rat.Floor(b)).Cmp(floor(y)) != 0 {
		t.Error("floor")
	}
	if got, ok := rat.Between(b, a); !ok || !equal(got, told(0, 1)) {
		t.Error("between")
	}
}
