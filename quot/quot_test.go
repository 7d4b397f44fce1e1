package quot_test

import (
	"math/big"
	"slices"
	"testing"

	"strait/api"
	"strait/nat"
	"strait/prod"
	"strait/quot"
)

const (
	full = 1<<32 - 1
	half = 1 << 31
)

// noughts are all forms of nought.
func noughts() []api.Nat { return []api.Nat{nil, {}, {0}, {0, 0, 0}} }

// numbers are noughts, ordinary ones and edges: one limb and more, full limbs, noughts between and last.
func numbers() []api.Nat {
	return append(noughts(), []api.Nat{
		{1}, {1, 0}, {2}, {7, 0, 0}, {12}, {18}, {half}, {full - 1}, {full}, {full, 0},
		{0, 1}, {1, 1}, {0, 1, 0}, {5, 9}, {full, half}, {full, full - 1}, {full, full}, {full, full, 0},
		{0, 0, 1}, {0, full, 1}, {1, 0, half}, {0, full - 1, half}, {full, full, full}, {12, 34, 56, 78}, {12, 34, 56, 78, 0, 0},
		{3, 0, 0, half, 1}, {0, 0, half - 1, half, half - 1}, {full, full, full, full, full}, {0, 0, 0, 0, 0, 1},
	}...)
}

// long are three numbers of n limbs each: without order (the same ones each time), full ones, and noughts between two.
func long(n int) []api.Nat {
	mixed, holed := make(api.Nat, n), make(api.Nat, n)
	x := uint64(n) + 1
	for i := range mixed {
		x = x*6364136223846793005 + 1442695040888963407
		mixed[i] = uint32(x >> 32)
	}
	holed[0], holed[n-1], mixed[n-1] = 3, half, mixed[n-1]|1
	return []api.Nat{mixed, slices.Repeat(api.Nat{full}, n), holed}
}

// value is what the words say that a number is.
func value(a api.Nat) *big.Int {
	v := make([]byte, 0, 4*len(a))
	for _, limb := range slices.Backward(a) {
		v = append(v, byte(limb>>24), byte(limb>>16), byte(limb>>8), byte(limb))
	}
	return new(big.Int).SetBytes(v)
}

// isValue: is a trimmed, and that number?
func isValue(a api.Nat, v *big.Int) bool {
	return (len(a) == 0 || a[len(a)-1] != 0) && value(a).Cmp(v) == 0
}

// P3.1

func TestDiv(t *testing.T) {
	for _, x := range []struct{ a, b, q, r api.Nat }{
		{api.Nat{7}, api.Nat{2}, api.Nat{3}, api.Nat{1}}, {api.Nat{6, 0}, api.Nat{2, 0, 0}, api.Nat{3}, nil}, {api.Nat{7}, api.Nat{1}, api.Nat{7}, nil},
		{nil, api.Nat{5}, nil, nil}, {api.Nat{0, 0}, api.Nat{5, 6}, nil, nil}, {api.Nat{4}, api.Nat{5}, nil, api.Nat{4}}, {api.Nat{5}, api.Nat{5}, api.Nat{1}, nil},
		{api.Nat{0, 1}, api.Nat{2}, api.Nat{half}, nil}, {api.Nat{3, 4, 5}, api.Nat{0, 0, 1}, api.Nat{5}, api.Nat{3, 4}}, {api.Nat{9, 9, 0}, api.Nat{9, 9, 1}, nil, api.Nat{9, 9}},
		{api.Nat{1, full - 1}, api.Nat{full}, api.Nat{full}, nil}, {api.Nat{0, full - 1}, api.Nat{full}, api.Nat{full - 1}, api.Nat{full - 1}}, {api.Nat{full, full, full}, api.Nat{full, full}, api.Nat{0, 1}, api.Nat{full}},
		{api.Nat{0, 0, half, half - 1}, api.Nat{1, 0, half}, api.Nat{full - 1}, api.Nat{2, full, half - 1}}, {api.Nat{3, 0, half}, api.Nat{1, 0, half >> 2}, api.Nat{3}, api.Nat{0, 0, half >> 2}},
	} {
		q, r, e := quot.Div(x.a, x.b)
		if !slices.Equal(q, x.q) || !slices.Equal(r, x.r) || e != api.OK {
			t.Error(x.a, x.b, q, r, e)
		}
	}
}

func TestDivByNought(t *testing.T) {
	for _, a := range append(numbers(), long(100)...) {
		for _, b := range noughts() {
			if q, r, e := quot.Div(a, b); len(q) != 0 || len(r) != 0 || e != api.ErrZero {
				t.Error(a, b, q, r, e)
			}
		}
	}
}

// wantDiv holds a call against the library's numbers.
func wantDiv(t *testing.T, a, b api.Nat) {
	t.Helper()
	wantQ, wantR := new(big.Int).QuoRem(value(a), value(b), new(big.Int))
	if q, r, e := quot.Div(a, b); !isValue(q, wantQ) || !isValue(r, wantR) || e != api.OK {
		if len(a) > 50 {
			t.Fatal("wrong, of limbs:", len(a), len(b), e)
		}
		t.Fatal(a, b, q, r, e)
	}
}

func TestDivOfAll(t *testing.T) {
	for _, a := range numbers() {
		for _, b := range numbers() {
			if value(b).Sign() > 0 {
				wantDiv(t, a, b)
			}
		}
	}
}

func TestDivOfLongOnes(t *testing.T) {
	lengths := []int{1, 2, 3, 4, 31, 32, 33, 64, 99, 100, 101, 200, 333}
	for _, n := range lengths {
		for _, m := range lengths {
			for _, a := range long(n) {
				for _, b := range long(m) {
					wantDiv(t, a, b)
					wantDiv(t, prod.Mul(a, b), b)
					wantDiv(t, append(prod.Mul(a, b), 0, 0), append(prod.Down(b, 7), 0))
				}
			}
		}
	}
}

func TestDivOfVeryLongOnes(t *testing.T) {
	for _, a := range long(20000) {
		for _, m := range []int{2, 10000, 19999, 20001} {
			for _, b := range long(m) {
				wantDiv(t, a, b)
			}
		}
	}
}

// Limbs at the edges make guesses that are too great by one and by two, or no limbs at all, and what is taken goes below nought.
func TestDivOfLimbsAtTheEdges(t *testing.T) {
	edges := []uint32{0, 1, half - 1, half, full - 1, full}
	each := func(f func(x, y, z uint32)) {
		for _, x := range edges {
			for _, y := range edges {
				for _, z := range edges {
					f(x, y, z)
				}
			}
		}
	}
	each(func(x, y, z uint32) {
		b := api.Nat{x, y, z | 1}
		each(func(p, q, r uint32) {
			wantDiv(t, api.Nat{p, q, r, z}, b)
			wantDiv(t, api.Nat{p, 0, q, r, z >> 1}, b)
			wantDiv(t, api.Nat{p, q, r, y}, b[1:])
		})
	})
}

func TestShort(t *testing.T) {
	for _, x := range []struct {
		a api.Nat
		n uint32
		q api.Nat
		r uint32
		e api.Errno
	}{
		{api.Nat{7}, 2, api.Nat{3}, 1, api.OK}, {api.Nat{7, 0}, 1, api.Nat{7}, 0, api.OK}, {nil, 9, nil, 0, api.OK}, {api.Nat{0, 0}, 9, nil, 0, api.OK}, {api.Nat{8}, 9, nil, 8, api.OK}, {api.Nat{9}, 9, api.Nat{1}, 0, api.OK},
		{api.Nat{0, 1}, 10, api.Nat{429496729}, 6, api.OK}, {api.Nat{full, full}, full, api.Nat{1, 1}, 0, api.OK}, {api.Nat{5, 6, 7}, half, api.Nat{12, 14}, 5, api.OK},
		{api.Nat{7}, 0, nil, 0, api.ErrZero}, {nil, 0, nil, 0, api.ErrZero}, {api.Nat{full, full, 0}, 0, nil, 0, api.ErrZero},
	} {
		if q, r, e := quot.Short(x.a, x.n); !slices.Equal(q, x.q) || r != x.r || e != x.e {
			t.Error(x.a, x.n, q, r, e)
		}
	}
	for _, a := range append(numbers(), long(500)...) {
		for _, n := range []uint32{1, 2, 3, 10, 1000000000, half - 1, half, half + 1, full - 1, full} {
			wantQ, wantR := new(big.Int).QuoRem(value(a), big.NewInt(int64(n)), new(big.Int))
			if q, r, e := quot.Short(a, n); !isValue(q, wantQ) || int64(r) != wantR.Int64() || e != api.OK {
				t.Error(len(a), n, len(q), r, e)
			}
		}
	}
}

// P3.2

func TestDivides(t *testing.T) {
	for _, x := range []struct {
		a    api.Nat
		l    []api.Nat
		want bool
	}{
		{api.Nat{3}, nil, true}, {api.Nat{3}, []api.Nat{}, true}, {nil, nil, true},
		{api.Nat{3}, []api.Nat{{12}}, true}, {api.Nat{12}, []api.Nat{{3}}, false}, {api.Nat{3}, []api.Nat{{3}, {6, 0}, {9}}, true},
		{api.Nat{3}, []api.Nat{{4}, {6}, {9}}, false}, {api.Nat{3}, []api.Nat{{3}, {7}, {9}}, false}, {api.Nat{3}, []api.Nat{{3}, {6}, {8}}, false},
		{api.Nat{3}, []api.Nat{nil, {0, 0}, {6}}, true}, {api.Nat{1, 0}, []api.Nat{{5}, nil, {1, 2, 3}}, true}, {api.Nat{2, 2}, []api.Nat{{6, 6}, {0, 2, 2}}, true}, {api.Nat{2, 2}, []api.Nat{{1, 1}}, false},
		{nil, []api.Nat{nil}, true}, {api.Nat{0, 0}, []api.Nat{{0}, {}, nil}, true}, {nil, []api.Nat{{1}}, false}, {api.Nat{0}, []api.Nat{nil, {7}}, false}, {api.Nat{}, []api.Nat{{0, 1}, nil}, false},
	} {
		if got := quot.Divides(x.a, x.l...); got != x.want {
			t.Error(x.a, x.l, got)
		}
	}
}

func TestDividesWhatIsATimesSomething(t *testing.T) {
	for _, a := range numbers() {
		for _, b := range numbers() {
			product := prod.Mul(a, b)
			if !quot.Divides(a, product, b, product) != !quot.Divides(a, b) || !quot.Divides(a, product) || !quot.Divides(a) {
				t.Error(a, b)
			}
			if nat.Cmp(a, api.Nat{1}) > 0 && quot.Divides(a, product, nat.Add(product, api.Nat{1})) {
				t.Error(a, b, "and one more")
			}
		}
	}
}

// P3.3

func TestTimes(t *testing.T) {
	for _, x := range []struct {
		a, b api.Nat
		want int
	}{
		{api.Nat{12}, api.Nat{2}, 2}, {api.Nat{12, 0}, api.Nat{3}, 1}, {api.Nat{12}, api.Nat{5}, 0}, {api.Nat{12}, api.Nat{4, 0}, 1}, {api.Nat{12}, api.Nat{12}, 1}, {api.Nat{12}, api.Nat{24}, 0}, {api.Nat{1}, api.Nat{2}, 0},
		{api.Nat{12}, nil, 0}, {api.Nat{12}, api.Nat{0, 0}, 0}, {api.Nat{12}, api.Nat{1}, 0}, {api.Nat{12}, api.Nat{1, 0, 0}, 0}, {api.Nat{1}, api.Nat{1}, 0},
		{nil, api.Nat{2}, 0}, {api.Nat{0, 0}, api.Nat{2}, 0}, {nil, nil, 0}, {api.Nat{}, api.Nat{1}, 0},
		{api.Nat{64}, api.Nat{2}, 6}, {api.Nat{64}, api.Nat{4}, 3}, {api.Nat{64}, api.Nat{8}, 2}, {api.Nat{64}, api.Nat{16}, 1}, {api.Nat{0, 0, 8}, api.Nat{2}, 67}, {api.Nat{0, 0, 8}, api.Nat{0, 1}, 2}, {api.Nat{0, 0, 8}, api.Nat{0, 2}, 2},
	} {
		if got := quot.Times(x.a, x.b); got != x.want {
			t.Error(x.a, x.b, got)
		}
	}
}

func TestTimesOfPowers(t *testing.T) {
	for _, b := range []api.Nat{{2}, {3, 0}, {6}, {1000000000}, {full}, {0, 1}, {10, 10}, {5, 0, 7}} {
		for k := range 70 {
			power := prod.Pow(b, k)
			// None of these is a times b, nor is b's square a divisor of one times b.
			for _, rest := range []api.Nat{{1}, nat.Add(b, api.Nat{1}), nat.Add(prod.Mul(b, b), api.Nat{1})} {
				if got := quot.Times(prod.Mul(power, rest), b); got != k {
					t.Fatal(b, k, rest, got)
				}
			}
			if got := quot.Times(nat.Add(power, api.Nat{1}), b); got != 0 && k > 0 {
				t.Fatal(b, k, got)
			}
		}
	}
}

func TestTimesOfLongOnes(t *testing.T) {
	for _, x := range []struct {
		a, b api.Nat
		want int
	}{
		{append(make(api.Nat, 10000), 1), api.Nat{2}, 320000}, {append(make(api.Nat, 10000), 8), api.Nat{2}, 320003}, {append(make(api.Nat, 10000), 3, 0), api.Nat{0, 0, 0, 1}, 3333},
		{long(10000)[1], long(100)[1], 1}, {long(10000)[1], api.Nat{2}, 0}, {prod.Pow(long(30)[0], 200), long(30)[0], 200}, {long(9000)[0], long(9000)[0], 1},
	} {
		if got := quot.Times(x.a, x.b); got != x.want {
			t.Error(len(x.a), len(x.b), got, x.want)
		}
	}
}

// P3.4

func TestQuotientTimesDivisorAndRestAreTheNumber(t *testing.T) {
	l := append(numbers(), append(long(90), long(201)...)...)
	for _, a := range l {
		for _, b := range l {
			q, r, e := quot.Div(a, b)
			if e != api.OK {
				continue
			}
			if !slices.Equal(nat.Add(prod.Mul(q, b), r), nat.Trim(a)) || nat.Cmp(r, b) >= 0 {
				t.Error(len(a), len(b), len(q), len(r))
			}
			if n, ok := nat.Small(b); ok && n <= full {
				short, rest, e := quot.Short(a, uint32(n))
				if !slices.Equal(short, q) || !slices.Equal(nat.Of(uint64(rest)), r) || e != api.OK {
					t.Error(len(a), n, len(short), rest, e)
				}
			}
		}
	}
}

func TestDivByOneBehindTheOther(t *testing.T) {
	for _, a := range append(numbers(), long(50)...) {
		for _, b := range numbers() {
			for _, c := range numbers() {
				first, _, e1 := quot.Div(a, b)
				both, _, e2 := quot.Div(first, c)
				want, _, e := quot.Div(a, prod.Mul(b, c))
				if !slices.Equal(both, want) && e == api.OK || max(e1, e2) != e {
					t.Fatal(a, b, c)
				}
			}
		}
	}
}

// R1, R3, R4

// calls are all calls that take numbers; each answers the numbers that it tells.
func calls() map[string]func(a, b api.Nat) []api.Nat {
	return map[string]func(a, b api.Nat) []api.Nat{
		"Div":     func(a, b api.Nat) []api.Nat { q, r, e := quot.Div(a, b); return []api.Nat{q, r, {uint32(e)}} },
		"Short 1": func(a, b api.Nat) []api.Nat { q, r, e := quot.Short(a, 1); return []api.Nat{q, {r, uint32(e)}} },
		"Short 9": func(a, b api.Nat) []api.Nat { q, r, e := quot.Short(a, 9); return []api.Nat{q, {r, uint32(e)}} },
		"Times":   func(a, b api.Nat) []api.Nat { return []api.Nat{{uint32(quot.Times(a, b))}} },
		"Divides": func(a, b api.Nat) []api.Nat {
			if quot.Divides(a, b, a) {
				return []api.Nat{{1}}
			}
			return nil
		},
	}
}

func same(x, y []api.Nat) bool { return slices.EqualFunc(x, y, slices.Equal[api.Nat]) }

func copied(l []api.Nat) []api.Nat {
	all := make([]api.Nat, len(l))
	for i, a := range l {
		all[i] = slices.Clone(a)
	}
	return all
}

func TestWhatIsHandedInStays(t *testing.T) {
	for name, call := range calls() {
		for _, x := range numbers() {
			for _, y := range numbers() {
				// Both are pieces of longer lists, so that what is written behind them shows.
				a, b := append(slices.Clone(x), 11, 22), append(slices.Clone(y), 33, 44)
				l := []api.Nat{a, b}
				kept := copied(l)
				got := call(a[:len(x)], b[:len(y)])
				want := copied(got)
				if !same(l, kept) {
					t.Fatal(name, "changed", x, y)
				}
				clear(a)
				clear(b)
				if !same(got, want) {
					t.Fatal(name, "answers memory that was handed in", x, y)
				}
			}
		}
	}
}

func TestAnswersAreNew(t *testing.T) {
	for name, call := range calls() {
		for _, a := range numbers() {
			for _, b := range numbers() {
				want := copied(call(a, b))
				two := call(a, b)
				for i, one := range call(a, b) {
					others := call(a, b)
					for j := range others[i][:cap(others[i])] {
						others[i][:cap(others[i])][j] = 77
					}
					others[i] = one
					if !same(others, want) {
						t.Fatal(name, "answers two that share memory", a, b)
					}
				}
				if !same(two, want) || !same(call(a, b), want) {
					t.Fatal(name, "answers memory twice", a, b)
				}
			}
		}
	}
}

func TestListsStay(t *testing.T) {
	l := []api.Nat{{4, 0}, nil, {2, 2, 0}}
	quot.Divides(api.Nat{2, 0}, l...)
	if !same(l, []api.Nat{{4, 0}, nil, {2, 2, 0}}) {
		t.Error(l)
	}
}

func TestNilAndEmptyAreTheSame(t *testing.T) {
	for name, call := range calls() {
		for _, a := range numbers() {
			if !same(call(a, nil), call(a, api.Nat{})) || !same(call(nil, a), call(api.Nat{}, a)) {
				t.Error(name, a)
			}
		}
	}
}
