package sint_test

import (
	"math"
	"math/big"
	"slices"
	"testing"

	"strait/api"
	"strait/sint"
)

const (
	full = 1<<32 - 1
	half = 1 << 31
)

func above(limbs ...uint32) api.Int { return api.Int{Abs: limbs} }

func below(limbs ...uint32) api.Int { return api.Int{Neg: true, Abs: limbs} }

// noughts are all forms of nought.
func noughts() []api.Int {
	return []api.Int{{}, {Neg: true}, {Abs: api.Nat{}}, below([]uint32{}...), above(0), below(0), above(0, 0, 0), below(0, 0, 0)}
}

// numbers are noughts, ordinary ones and edges, with either sign: one limb, two and more, full limbs, noughts between and last, the greatest and the least int and what is next to them.
func numbers() []api.Int {
	l := noughts()
	for _, abs := range []api.Nat{
		{1}, {1, 0}, {2}, {3}, {4, 0, 0}, {6}, {7}, {12}, {35, 0}, {half}, {full}, {full, 0},
		{0, 1}, {1, 1}, {0, 1, 0}, {5, 9}, {full, half - 1}, {full, half - 1, 0}, {0, half}, {0, half, 0}, {1, half}, {full, full},
		{0, 0, 1}, {0, full, 1}, {full, full, full}, {12, 34, 56, 78, 0, 0},
	} {
		l = append(l, api.Int{Abs: slices.Clone(abs)}, api.Int{Neg: true, Abs: slices.Clone(abs)})
	}
	return l
}

// mixed is a number of n limbs without order: the same one each time.
func mixed(n int, seed uint64, neg bool) api.Int {
	abs := make(api.Nat, n)
	x := seed
	for i := range abs {
		x = x*6364136223846793005 + 1442695040888963407
		abs[i] = uint32(x >> 32)
	}
	abs[n-1] |= 1
	return api.Int{Neg: neg, Abs: abs}
}

// long are numbers of n limbs each, with either sign: without order, full ones.
func long(n int) []api.Int {
	everywhere := slices.Repeat(api.Nat{full}, n)
	return []api.Int{mixed(n, uint64(n), false), mixed(n, 7, true), {Abs: everywhere}, {Neg: true, Abs: everywhere}}
}

// value is what the words say that an integer is.
func value(a api.Int) *big.Int {
	bytes := make([]byte, 0, 4*len(a.Abs))
	for _, limb := range slices.Backward(a.Abs) {
		bytes = append(bytes, byte(limb>>24), byte(limb>>16), byte(limb>>8), byte(limb))
	}
	v := new(big.Int).SetBytes(bytes)
	if a.Neg {
		v.Neg(v)
	}
	return v
}

// isTold: is it as integers are told?
func isTold(a api.Int) bool {
	if len(a.Abs) == 0 {
		return !a.Neg
	}
	return a.Abs[len(a.Abs)-1] != 0
}

func equal(a, b api.Int) bool { return a.Neg == b.Neg && slices.Equal(a.Abs, b.Abs) }

func wantValue(t *testing.T, got api.Int, want *big.Int, what ...any) {
	t.Helper()
	if !isTold(got) || value(got).Cmp(want) != 0 {
		t.Fatal(append(what, "got", got, "want", want)...)
	}
}

// P5.1

func TestOf(t *testing.T) {
	for _, x := range []struct {
		n    int
		want api.Int
	}{
		{0, api.Int{}}, {1, above(1)}, {-1, below(1)}, {7, above(7)}, {-7, below(7)}, {full, above(full)}, {-full, below(full)}, {1 << 32, above(0, 1)}, {-1 << 32, below(0, 1)},
		{math.MaxInt, above(full, half-1)}, {-math.MaxInt, below(full, half-1)}, {math.MinInt, below(0, half)},
	} {
		if got := sint.Of(x.n); !equal(got, x.want) {
			t.Error(x.n, got)
		}
	}
}

func TestNorm(t *testing.T) {
	for _, a := range noughts() {
		if got := sint.Norm(a); got.Neg || len(got.Abs) > 0 {
			t.Error(a, got)
		}
	}
	for _, x := range []struct{ a, want api.Int }{
		{above(5), above(5)}, {below(5), below(5)}, {below(5, 0, 0), below(5)}, {above(5, 0), above(5)}, {below(0, 5, 0), below(0, 5)}, {above(0, 0, full), above(0, 0, full)}, {below(1, 0, 2, 0), below(1, 0, 2)},
	} {
		if got := sint.Norm(x.a); !equal(got, x.want) {
			t.Error(x.a, got)
		}
	}
	for _, a := range numbers() {
		wantValue(t, sint.Norm(a), value(a), a)
	}
}

func TestSmall(t *testing.T) {
	for _, x := range []struct {
		a  api.Int
		n  int
		ok bool
	}{
		{api.Int{}, 0, true}, {below(), 0, true}, {below(0, 0, 0, 0), 0, true}, {above(9), 9, true}, {below(9, 0), -9, true}, {below(0, 1), -1 << 32, true}, {above(3, 0, 0, 0), 3, true},
		{above(full, half-1), math.MaxInt, true}, {below(full, half-1, 0), -math.MaxInt, true}, {below(0, half), math.MinInt, true}, {below(0, half, 0, 0), math.MinInt, true},
		{above(0, half), 0, false}, {above(0, half, 0), 0, false}, {below(1, half), 0, false}, {above(full, full), 0, false}, {below(full, full), 0, false},
		{above(0, 0, 1), 0, false}, {below(0, 0, 1), 0, false}, {below(7, 0, 1, 0), 0, false}, {above(7, 8, 0, 1), 0, false},
	} {
		if n, ok := sint.Small(x.a); n != x.n || ok != x.ok {
			t.Error(x.a, n, ok)
		}
	}
	for _, n := range []int{0, 1, -1, full, -full, 1<<62 + 5, -1<<62 - 5, math.MaxInt, math.MinInt, math.MinInt + 1} {
		if got, ok := sint.Small(sint.Of(n)); got != n || !ok {
			t.Error(n, got, ok)
		}
	}
	for _, a := range numbers() {
		n, ok := sint.Small(a)
		if v := value(a); ok != v.IsInt64() || ok && int64(n) != v.Int64() || !ok && n != 0 {
			t.Error(a, n, ok)
		}
	}
}

func TestSign(t *testing.T) {
	for _, a := range noughts() {
		if got := sint.Sign(a); got != 0 {
			t.Error(a, got)
		}
	}
	for _, x := range []struct {
		a    api.Int
		want int
	}{
		{above(1), 1}, {below(1), -1}, {above(5, 0, 0), 1}, {below(5, 0, 0), -1}, {above(0, 0, 1), 1}, {below(0, 0, 1, 0), -1}, {above(half), 1}, {above(0, half), 1},
	} {
		if got := sint.Sign(x.a); got != x.want {
			t.Error(x.a, got)
		}
	}
	for _, a := range numbers() {
		if got := sint.Sign(a); got != value(a).Sign() {
			t.Error(a, got)
		}
	}
}

func TestCmp(t *testing.T) {
	for _, a := range noughts() {
		for _, b := range noughts() {
			if sint.Cmp(a, b) != 0 {
				t.Error(a, b)
			}
		}
	}
	for _, x := range []struct {
		a, b api.Int
		want int
	}{
		{above(1), above(2), -1}, {below(1), below(2), 1}, {below(2), above(1), -1}, {above(1), below(2), 1}, {below(3, 0), below(3), 0}, {above(3), above(3, 0, 0), 0},
		{below(), above(1), -1}, {below(0), below(1), 1}, {above(0, 0), below(1), 1}, {below(1), above(0), -1}, {above(1), api.Int{}, 1},
		{above(0, 1), above(full), 1}, {below(0, 1), below(full), -1}, {below(2, 7), below(1, 8), 1}, {above(2, 7), above(1, 8), -1},
	} {
		if got := sint.Cmp(x.a, x.b); got != x.want {
			t.Error(x.a, x.b, got)
		}
	}
	for _, a := range numbers() {
		for _, b := range numbers() {
			if got, want := sint.Cmp(a, b), value(a).Cmp(value(b)); got != want {
				t.Error(a, b, got, want)
			}
		}
	}
}

func TestSame(t *testing.T) {
	for _, x := range []struct {
		a, b api.Int
		want bool
	}{
		{api.Int{}, below(), true}, {below(0, 0), above(0), true}, {above(4), above(4, 0), true}, {below(4), below(4, 0, 0), true},
		{above(4), below(4), false}, {above(4), above(5), false}, {above(1), api.Int{}, false}, {below(0), below(1), false}, {above(4, 1), above(4), false},
	} {
		if sint.Same(x.a, x.b) != x.want {
			t.Error(x.a, x.b)
		}
	}
	for _, a := range numbers() {
		for _, b := range numbers() {
			if sint.Same(a, b) != (value(a).Cmp(value(b)) == 0) {
				t.Error(a, b)
			}
		}
	}
}

// P5.2

func TestNeg(t *testing.T) {
	for _, x := range []struct{ a, want api.Int }{
		{api.Int{}, api.Int{}}, {below(), api.Int{}}, {above(0, 0), api.Int{}}, {below(0), api.Int{}}, {above(5), below(5)}, {below(5), above(5)}, {above(5, 0), below(5)}, {below(0, 5, 0), above(0, 5)},
	} {
		if got := sint.Neg(x.a); !equal(got, x.want) {
			t.Error(x.a, got)
		}
	}
	for _, a := range numbers() {
		wantValue(t, sint.Neg(a), new(big.Int).Neg(value(a)), a)
	}
}

func TestAdd(t *testing.T) {
	for _, x := range []struct {
		l    []api.Int
		want api.Int
	}{
		{nil, api.Int{}}, {[]api.Int{}, api.Int{}}, {noughts(), api.Int{}}, {[]api.Int{below(0)}, api.Int{}}, {[]api.Int{below(8, 0)}, below(8)}, {[]api.Int{above(8, 0)}, above(8)},
		{[]api.Int{above(5), below(5)}, api.Int{}}, {[]api.Int{below(5), above(5, 0)}, api.Int{}}, {[]api.Int{above(5), below(7)}, below(2)}, {[]api.Int{below(5), above(7)}, above(2)}, {[]api.Int{below(5), below(7)}, below(12)},
		{[]api.Int{below(full), below(1)}, below(0, 1)}, {[]api.Int{above(0, 0, 1), below(1)}, above(full, full)}, {[]api.Int{above(0, 0, 1), below(0, 0, 1, 0)}, api.Int{}}, {[]api.Int{below(0, 0, 1), above(1, 0, 1)}, above(1)},
		{[]api.Int{above(1), below(2), above(3), below(4)}, below(2)}, {[]api.Int{below(1), {}, above(2), below(), below(1)}, api.Int{}},
	} {
		if got := sint.Add(x.l...); !equal(got, x.want) {
			t.Error(x.l, got)
		}
	}
	for _, a := range numbers() {
		for _, b := range numbers() {
			want := new(big.Int).Add(value(a), value(b))
			wantValue(t, sint.Add(a, b), want, a, b)
			for _, c := range numbers() {
				wantValue(t, sint.Add(a, b, c), new(big.Int).Add(want, value(c)), a, b, c)
			}
		}
	}
}

func TestAddOfMany(t *testing.T) {
	l := long(1 << 15)[:3] // of which one is below nought
	for i := range 1 << 15 {
		l = append(l, mixed(1, uint64(i), i%3 > 0))
	}
	want := new(big.Int)
	for _, a := range l {
		want.Add(want, value(a))
	}
	for range 2 {
		if got := sint.Add(l...); !isTold(got) || value(got).Cmp(want) != 0 {
			t.Error("wrong, of limbs:", len(got.Abs))
		}
		slices.Reverse(l)
	}
}

func TestSub(t *testing.T) {
	for _, x := range []struct{ a, b, want api.Int }{
		{api.Int{}, below(), api.Int{}}, {above(0), above(3, 0), below(3)}, {below(0), below(3), above(3)}, {above(3), below(0, 0), above(3)}, {below(3, 0), api.Int{}, below(3)}, {below(3), below(3, 0), api.Int{}},
		{above(5), above(7), below(2)}, {above(5), below(7), above(12)}, {below(5), above(7), below(12)}, {below(5), below(7), above(2)}, {above(0, 1), above(1), above(full)}, {below(full), above(1), below(0, 1)},
	} {
		if got := sint.Sub(x.a, x.b); !equal(got, x.want) {
			t.Error(x.a, x.b, got)
		}
	}
	for _, a := range append(numbers(), long(50)...) {
		for _, b := range append(numbers(), long(51)...) {
			wantValue(t, sint.Sub(a, b), new(big.Int).Sub(value(a), value(b)), a, b)
		}
	}
}

func TestMul(t *testing.T) {
	for _, x := range []struct {
		l    []api.Int
		want api.Int
	}{
		{nil, above(1)}, {[]api.Int{}, above(1)}, {noughts(), api.Int{}}, {[]api.Int{below(0)}, api.Int{}}, {[]api.Int{below(8, 0)}, below(8)}, {[]api.Int{above(8, 0)}, above(8)},
		{[]api.Int{above(5), below(7)}, below(35)}, {[]api.Int{below(5), above(7)}, below(35)}, {[]api.Int{below(5), below(7)}, above(35)}, {[]api.Int{below(1), below(1), below(1)}, below(1)},
		{[]api.Int{below(1), below(), below(1)}, api.Int{}}, {[]api.Int{below(5), above(0, 0)}, api.Int{}}, {[]api.Int{{}, below(5, 5, 5)}, api.Int{}}, {[]api.Int{below(full), above(full)}, below(1, full-1)}, {[]api.Int{below(0, 2, 0), below(0, 3)}, above(0, 0, 6)},
		{[]api.Int{above(2), below(3), above(4), below(5)}, above(120)}, {[]api.Int{below(2), below(3), above(4), below(5, 0)}, below(120)},
	} {
		if got := sint.Mul(x.l...); !equal(got, x.want) {
			t.Error(x.l, got)
		}
	}
	for _, a := range numbers() {
		for _, b := range numbers() {
			want := new(big.Int).Mul(value(a), value(b))
			wantValue(t, sint.Mul(a, b), want, a, b)
			for _, c := range numbers() {
				wantValue(t, sint.Mul(a, b, c), new(big.Int).Mul(want, value(c)), a, b, c)
			}
		}
	}
}

func TestMulOfMany(t *testing.T) {
	var l []api.Int
	want := big.NewInt(1)
	for i := range 2001 {
		a := mixed(1+i%3, uint64(i), i%2 == 0) // an odd count of them is below nought
		l = append(l, a)
		want.Mul(want, value(a))
	}
	if got := sint.Mul(l...); !isTold(got) || value(got).Cmp(want) != 0 {
		t.Error("wrong, of limbs:", len(got.Abs))
	}
	if got := sint.Mul(append(l, below(0))...); !equal(got, api.Int{}) {
		t.Error("not nought, of limbs:", len(got.Abs))
	}
}

// P5.3

func TestDiv(t *testing.T) {
	for _, x := range []struct{ a, b, q, r api.Int }{
		{above(7), above(2), above(3), above(1)}, {below(7), above(2), below(4), above(1)}, {above(7), below(2), below(4), below(1)}, {below(7), below(2), above(3), below(1)},
		{above(6), above(2), above(3), api.Int{}}, {below(6), above(2), below(3), api.Int{}}, {above(6), below(2), below(3), api.Int{}}, {below(6), below(2), above(3), api.Int{}},
		{above(1), above(5), api.Int{}, above(1)}, {below(1), above(5), below(1), above(4)}, {above(1), below(5), below(1), below(4)}, {below(1), below(5), api.Int{}, below(1)},
		{api.Int{}, above(5), api.Int{}, api.Int{}}, {below(0), above(5), api.Int{}, api.Int{}}, {above(0, 0), below(5), api.Int{}, api.Int{}}, {below(), below(5), api.Int{}, api.Int{}},
		{above(5), above(1), above(5), api.Int{}}, {above(5), below(1), below(5), api.Int{}}, {below(5, 0), below(1, 0), above(5), api.Int{}}, {below(7, 0), above(2, 0, 0), below(4), above(1)},
		{below(full, full), above(0, 1), below(0, 1), above(1)}, {below(1), above(0, 0, 1), below(1), above(full, full)}, {above(1), below(0, 0, 1), below(1), below(full, full)}, {below(full, full, full), above(1, 1), below(1, full), above(2)},
		{below(0, half), below(1), above(0, half), api.Int{}},
	} {
		if q, r, e := sint.Div(x.a, x.b); !equal(q, x.q) || !equal(r, x.r) || e != api.OK {
			t.Error(x.a, x.b, q, r, e)
		}
	}
}

func TestDivByNought(t *testing.T) {
	for _, a := range numbers() {
		for _, b := range noughts() {
			if q, r, e := sint.Div(a, b); e != api.ErrZero || !equal(q, api.Int{}) || !equal(r, api.Int{}) {
				t.Error(a, b, q, r, e)
			}
		}
	}
}

// downwards is the greatest integer that is not above a by b, told by rounding a Euclidean quotient, and what is left.
func downwards(a, b *big.Int) (q, r *big.Int) {
	q, r = new(big.Int).DivMod(a, b, new(big.Int))
	if b.Sign() < 0 && r.Sign() > 0 {
		q.Sub(q, big.NewInt(1))
		r.Add(r, b)
	}
	return q, r
}

func TestDivOfAll(t *testing.T) {
	for _, a := range append(numbers(), long(20)...) {
		for _, b := range append(numbers(), slices.Concat(long(2), long(9), long(20))...) {
			if sint.Sign(b) == 0 {
				continue
			}
			wantQ, wantR := downwards(value(a), value(b))
			q, r, e := sint.Div(a, b)
			if e != api.OK {
				t.Fatal(a, b, e)
			}
			wantValue(t, q, wantQ, "quotient", a, b)
			wantValue(t, r, wantR, "rest", a, b)
		}
	}
}

func TestDivOfLittleOnes(t *testing.T) {
	for a := -40; a <= 40; a++ {
		for b := -12; b <= 12; b++ {
			if b == 0 {
				continue
			}
			q, r, e := sint.Div(sint.Of(a), sint.Of(b))
			times, _ := sint.Small(q)
			rest, _ := sint.Small(r)
			within := 0 <= rest && rest < b || b < rest && rest <= 0
			if e != api.OK || times*b+rest != a || !within {
				t.Error(a, b, times, rest, e)
			}
		}
	}
}

// P5.4

func TestSumsAndProductsInWhateverOrder(t *testing.T) {
	for _, a := range numbers() {
		for _, b := range numbers() {
			if !equal(sint.Add(a, b), sint.Add(b, a)) || !equal(sint.Mul(a, b), sint.Mul(b, a)) {
				t.Fatal(a, b)
			}
			for _, c := range append(noughts(), above(5, 6), below(full, 0, 7)) {
				sum, product := sint.Add(a, b, c), sint.Mul(a, b, c)
				if !equal(sum, sint.Add(c, b, a)) || !equal(sum, sint.Add(sint.Add(a, b), c)) || !equal(sum, sint.Add(a, sint.Add(b, c))) {
					t.Fatal("sum", a, b, c)
				}
				if !equal(product, sint.Mul(c, b, a)) || !equal(product, sint.Mul(sint.Mul(a, b), c)) || !equal(product, sint.Mul(a, sint.Mul(b, c))) {
					t.Fatal("product", a, b, c)
				}
			}
		}
	}
}

func TestTheProductOfASumIsTheSumOfProducts(t *testing.T) {
	for _, a := range numbers() {
		for _, b := range numbers() {
			for _, c := range append(numbers(), long(5)...) {
				if !equal(sint.Mul(sint.Add(a, b), c), sint.Add(sint.Mul(a, c), sint.Mul(b, c))) {
					t.Fatal(a, b, c)
				}
			}
		}
	}
}

func TestANumberAndItsNegAreNoughtTogether(t *testing.T) {
	for _, a := range append(numbers(), long(100)...) {
		neg := sint.Neg(a)
		if !equal(sint.Add(a, neg), api.Int{}) || !equal(sint.Add(neg, a), api.Int{}) || !equal(sint.Sub(a, a), api.Int{}) {
			t.Error(a, neg)
		}
		if !equal(sint.Neg(neg), sint.Norm(a)) || !equal(neg, sint.Mul(a, sint.Of(-1))) || sint.Sign(neg) != -sint.Sign(a) {
			t.Error(a, neg)
		}
		if !equal(sint.Add(a), sint.Norm(a)) || !equal(sint.Mul(a), sint.Norm(a)) || !equal(sint.Add(a, below(0)), sint.Norm(a)) || !equal(sint.Mul(a, above(1)), sint.Norm(a)) {
			t.Error(a)
		}
	}
}

func TestQuotientTimesDivisorAndRestAreTheNumber(t *testing.T) {
	for _, a := range append(numbers(), long(300)...) {
		for _, b := range append(numbers(), slices.Concat(long(10), long(299), long(300))...) {
			q, r, e := sint.Div(a, b)
			if (e == api.ErrZero) != (sint.Sign(b) == 0) {
				t.Fatal(a, b, e)
			}
			if e == api.OK && !equal(sint.Add(sint.Mul(q, b), r), sint.Norm(a)) {
				t.Fatal(a, b, q, r)
			}
			if e == api.OK && (sint.Sign(r)*sint.Sign(b) < 0 || sint.Cmp(r, b)*sint.Sign(b) >= 0) {
				t.Fatal(a, b, q, r)
			}
		}
	}
}

func TestOrderGoesWithDifferences(t *testing.T) {
	for _, a := range numbers() {
		for _, b := range numbers() {
			order := sint.Cmp(a, b)
			if order != sint.Sign(sint.Sub(a, b)) || order != -sint.Cmp(b, a) || order != sint.Cmp(sint.Neg(b), sint.Neg(a)) || (order == 0) != sint.Same(a, b) {
				t.Error(a, b, order)
			}
		}
	}
}

// R1, R3, R4

// calls are all calls that take integers; each answers what it tells as integers.
func calls() map[string]func(a, b api.Int) []api.Int {
	return map[string]func(a, b api.Int) []api.Int{
		"Norm":          func(a, b api.Int) []api.Int { return []api.Int{sint.Norm(a)} },
		"Neg":           func(a, b api.Int) []api.Int { return []api.Int{sint.Neg(a)} },
		"Add":           func(a, b api.Int) []api.Int { return []api.Int{sint.Add(a, b)} },
		"Add of one":    func(a, b api.Int) []api.Int { return []api.Int{sint.Add(a)} },
		"Sub":           func(a, b api.Int) []api.Int { return []api.Int{sint.Sub(a, b)} },
		"Mul":           func(a, b api.Int) []api.Int { return []api.Int{sint.Mul(a, b)} },
		"Mul of one":    func(a, b api.Int) []api.Int { return []api.Int{sint.Mul(a)} },
		"Mul with one":  func(a, b api.Int) []api.Int { return []api.Int{sint.Mul(a, above(1))} },
		"Div":           func(a, b api.Int) []api.Int { q, r, e := sint.Div(a, b); return []api.Int{q, r, sint.Of(int(e))} },
		"Sign":          func(a, b api.Int) []api.Int { return []api.Int{sint.Of(sint.Sign(a))} },
		"Cmp":           func(a, b api.Int) []api.Int { return []api.Int{sint.Of(sint.Cmp(a, b))} },
		"Small":         func(a, b api.Int) []api.Int { n, ok := sint.Small(a); return []api.Int{sint.Of(n), truth(ok)} },
		"Same":          func(a, b api.Int) []api.Int { return []api.Int{truth(sint.Same(a, b))} },
		"Same with one": func(a, b api.Int) []api.Int { return []api.Int{truth(sint.Same(a, above(1)))} },
	}
}

func truth(ok bool) api.Int {
	if ok {
		return sint.Of(1)
	}
	return api.Int{}
}

func same(x, y []api.Int) bool { return slices.EqualFunc(x, y, equal) }

func copied(l []api.Int) []api.Int {
	all := make([]api.Int, len(l))
	for i, a := range l {
		all[i] = api.Int{Neg: a.Neg, Abs: slices.Clone(a.Abs)}
	}
	return all
}

func TestWhatIsHandedInStays(t *testing.T) {
	for name, call := range calls() {
		for _, x := range numbers() {
			for _, y := range numbers() {
				// Both are pieces of longer lists, so that what is written behind them shows.
				a, b := append(slices.Clone(x.Abs), 11, 22), append(slices.Clone(y.Abs), 33, 44)
				l := []api.Int{{Abs: a}, {Abs: b}}
				kept := copied(l)
				got := call(api.Int{Neg: x.Neg, Abs: a[:len(x.Abs)]}, api.Int{Neg: y.Neg, Abs: b[:len(y.Abs)]})
				want := copied(got)
				if !same(l, kept) {
					t.Fatal(name, "changed", x, y)
				}
				clear(a)
				clear(b)
				if !same(got, want) {
					t.Fatal(name, "answers memory that was handed in", x, y)
				}
			}
		}
	}
}

func TestAnswersAreNew(t *testing.T) {
	for name, call := range calls() {
		for _, a := range numbers() {
			for _, b := range numbers() {
				want := copied(call(a, b))
				two := call(a, b)
				for i, one := range call(a, b) {
					others := call(a, b)
					room := others[i].Abs[:cap(others[i].Abs)]
					for j := range room {
						room[j] = 77
					}
					others[i] = one
					if !same(others, want) {
						t.Fatal(name, "answers two that share memory", a, b)
					}
				}
				if !same(two, want) || !same(call(a, b), want) {
					t.Fatal(name, "answers memory twice", a, b)
				}
			}
		}
	}
}

func TestListsStay(t *testing.T) {
	l := []api.Int{below(4, 0), {}, below(0), above(2, 2, 0), below(6, 0, 6)}
	kept := copied(l)
	room := append(l, above(1), below(2))
	sint.Add(room[:len(l)]...)
	sint.Mul(room[:len(l)]...)
	sint.Mul(room[:1]...)
	if !same(l, kept) || !same(room, append(kept, above(1), below(2))) {
		t.Error(room)
	}
}

func TestNilAndEmptyAreTheSame(t *testing.T) {
	for name, call := range calls() {
		for _, a := range numbers() {
			for _, nought := range noughts() {
				if !same(call(a, api.Int{}), call(a, nought)) || !same(call(api.Int{}, a), call(nought, a)) {
					t.Error(name, a, nought)
				}
			}
		}
	}
}
