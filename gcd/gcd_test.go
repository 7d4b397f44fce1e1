package gcd_test

import (
	"math/big"
	"slices"
	"testing"

	"strait/api"
	"strait/gcd"
	"strait/nat"
	"strait/prod"
	"strait/quot"
)

const (
	full = 1<<32 - 1
	half = 1 << 31
)

// noughts are all forms of nought.
func noughts() []api.Nat { return []api.Nat{nil, {}, {0}, {0, 0, 0}} }

// numbers are noughts, ordinary ones and edges: one limb, two and more, full limbs, noughts between and last, odd and even ones.
func numbers() []api.Nat {
	return append(noughts(), []api.Nat{
		{1}, {1, 0}, {2}, {3}, {4, 0, 0}, {6}, {12}, {18}, {35, 0}, {half}, {full - 1}, {full}, {full, 0},
		{0, 1}, {1, 1}, {0, 1, 0}, {5, 9}, {full, half}, {full, full - 1}, {full, full}, {full, full, 0}, {0, half},
		{0, 0, 1}, {0, full, 1}, {1, 0, half}, {0, full - 1, half}, {full, full, full}, {12, 34, 56, 78}, {12, 34, 56, 78, 0, 0},
		{3, 0, 0, half, 1}, {0, 0, half - 1, half, half - 1}, {full, full, full, full, full}, {0, 0, 0, 0, 0, 1}, {0, 0, 0, 0, 0, 6},
	}...)
}

// mixed is a number of n limbs without order: the same one each time.
func mixed(n int, seed uint64) api.Nat {
	a := make(api.Nat, n)
	x := seed
	for i := range a {
		x = x*6364136223846793005 + 1442695040888963407
		a[i] = uint32(x >> 32)
	}
	a[n-1] |= 1
	return a
}

// long are numbers of n limbs each: without order, full ones, noughts between two, a power of two.
func long(n int) []api.Nat {
	holed, power := make(api.Nat, n), make(api.Nat, n)
	holed[0], holed[n-1], power[n-1] = 3, half, 1
	return []api.Nat{mixed(n, uint64(n)), mixed(n, 7), slices.Repeat(api.Nat{full}, n), holed, power}
}

// value is what the words say that a number is.
func value(a api.Nat) *big.Int {
	v := make([]byte, 0, 4*len(a))
	for _, limb := range slices.Backward(a) {
		v = append(v, byte(limb>>24), byte(limb>>16), byte(limb>>8), byte(limb))
	}
	return new(big.Int).SetBytes(v)
}

// isValue: is a trimmed, and that number?
func isValue(a api.Nat, v *big.Int) bool {
	return (len(a) == 0 || a[len(a)-1] != 0) && value(a).Cmp(v) == 0
}

func greatest(a, b api.Nat) *big.Int { return new(big.Int).GCD(nil, nil, value(a), value(b)) }

// P4.1

func TestGcd(t *testing.T) {
	for _, x := range []struct{ a, b, want api.Nat }{
		{api.Nat{12}, api.Nat{18}, api.Nat{6}}, {api.Nat{18}, api.Nat{12}, api.Nat{6}}, {api.Nat{12, 0}, api.Nat{18, 0, 0}, api.Nat{6}},
		{nil, nil, nil}, {api.Nat{0, 0}, api.Nat{}, nil}, {nil, api.Nat{5}, api.Nat{5}}, {api.Nat{5, 0}, api.Nat{0}, api.Nat{5}}, {api.Nat{0}, api.Nat{0, 0, 4, 0}, api.Nat{0, 0, 4}}, {api.Nat{8, 7, 6, 0}, nil, api.Nat{8, 7, 6}},
		{api.Nat{1}, api.Nat{1}, api.Nat{1}}, {api.Nat{7}, api.Nat{7}, api.Nat{7}}, {api.Nat{1}, api.Nat{9, 9, 9}, api.Nat{1}}, {api.Nat{7}, api.Nat{9}, api.Nat{1}}, {api.Nat{7}, api.Nat{21}, api.Nat{7}}, {api.Nat{8}, api.Nat{12}, api.Nat{4}},
		{api.Nat{0, 6}, api.Nat{0, 9}, api.Nat{0, 3}}, {api.Nat{0, 0, 0, 6}, api.Nat{0, 0, 4}, api.Nat{0, 0, 4}}, {api.Nat{full}, api.Nat{full, full}, api.Nat{full}}, {api.Nat{full, full, full}, api.Nat{full, full}, api.Nat{full}},
		{api.Nat{full, full}, api.Nat{1, 1}, api.Nat{1, 1}}, {api.Nat{6, 0, 6}, api.Nat{9, 0, 9, 0}, api.Nat{3, 0, 3}}, {api.Nat{5, 6, 7, 8}, api.Nat{5, 6, 7, 8}, api.Nat{5, 6, 7, 8}}, {api.Nat{0, half, 0, half}, api.Nat{0, 0, 1, 0, 1}, api.Nat{0, half, 0, half}},
	} {
		if got := gcd.Gcd(x.a, x.b); !slices.Equal(got, x.want) {
			t.Error(x.a, x.b, got)
		}
	}
}

// wantGcd holds a call against the library's numbers.
func wantGcd(t *testing.T, a, b api.Nat) {
	t.Helper()
	if got := gcd.Gcd(a, b); !isValue(got, greatest(a, b)) {
		if len(a) > 50 {
			t.Fatal("wrong, of limbs:", len(a), len(b), len(got))
		}
		t.Fatal(a, b, got)
	}
}

func TestGcdOfAll(t *testing.T) {
	for _, a := range numbers() {
		for _, b := range numbers() {
			wantGcd(t, a, b)
			for _, c := range numbers() {
				wantGcd(t, prod.Mul(a, c), prod.Mul(b, c))
			}
		}
	}
}

func TestGcdOfLongOnes(t *testing.T) {
	lengths := []int{1, 2, 3, 4, 5, 7, 20, 64, 99}
	for _, n := range lengths {
		for _, m := range lengths {
			for _, a := range long(n) {
				for _, b := range long(m) {
					wantGcd(t, a, b)
					wantGcd(t, prod.Mul(a, mixed(m, 5)), prod.Mul(b, mixed(m, 5)))
				}
			}
		}
	}
}

func TestGcdOfVeryLongOnes(t *testing.T) {
	for _, n := range []int{3000, 2999, 1} {
		for _, a := range long(3000) {
			for _, b := range long(n) {
				wantGcd(t, a, b)
			}
		}
		wantGcd(t, prod.Mul(mixed(2000, 1), mixed(1500, 3)), prod.Mul(mixed(n, 2), mixed(1500, 3)))
	}
}

// Words that stand for such numbers are wrong about which one is less, or see no difference.
func TestGcdOfNeighbours(t *testing.T) {
	for n := 3; n < 40; n += 6 {
		for _, a := range long(n) {
			for k := range 32 * n {
				// Whose bits are the same above one place.
				difference := prod.Up(api.Nat{uint32(2*k + 1)}, k)
				wantGcd(t, a, nat.Add(a, difference))
				wantGcd(t, prod.Up(a, k%70), nat.Add(prod.Up(a, k%70), difference))
			}
		}
	}
}

// Of numbers behind one another of this row each is the sum of the two ahead: quotients are all 1.
func TestGcdOfSums(t *testing.T) {
	a, b := api.Nat{1}, api.Nat{2}
	for range 1500 {
		a, b = b, nat.Add(a, b)
		wantGcd(t, a, b)
		wantGcd(t, prod.By(b, 6), prod.By(a, 10))
	}
}

// Both have more twos than one shift of prod goes by.
func TestGcdOfManyTwos(t *testing.T) {
	moved := func(places int, a api.Nat) api.Nat { return append(make(api.Nat, places), a...) }
	for _, x := range []struct{ a, b, want api.Nat }{
		{moved(5000, api.Nat{6}), moved(6000, api.Nat{9}), moved(5000, api.Nat{6})},
		{moved(6000, api.Nat{5, 5, 5}), moved(5000, api.Nat{12, 12, 12}), moved(5000, api.Nat{4, 4, 4})},
		{moved(2048, api.Nat{1}), moved(2049, api.Nat{1}), moved(2048, api.Nat{1})},
		{moved(9000, api.Nat{half}), mixed(9001, 4), prod.Up(api.Nat{1}, twos(mixed(9001, 4)))},
	} {
		if got := gcd.Gcd(x.a, x.b); !slices.Equal(got, x.want) {
			t.Error(len(x.a), len(x.b), len(got), len(x.want))
		}
	}
}

func twos(a api.Nat) int { return quot.Times(a, api.Nat{2}) }

func TestAll(t *testing.T) {
	for _, x := range []struct {
		l    []api.Nat
		want api.Nat
	}{
		{nil, nil}, {[]api.Nat{}, nil}, {[]api.Nat{nil}, nil}, {noughts(), nil}, {[]api.Nat{{9, 0}}, api.Nat{9}}, {[]api.Nat{{9, 8, 7, 0}}, api.Nat{9, 8, 7}},
		{[]api.Nat{{12}, {18}}, api.Nat{6}}, {[]api.Nat{{12}, {18}, {27}}, api.Nat{3}}, {[]api.Nat{{27}, {12}, {18}}, api.Nat{3}}, {[]api.Nat{{6}, {10}, {15}}, api.Nat{1}}, {[]api.Nat{{7}, {9}, {7}}, api.Nat{1}},
		{[]api.Nat{nil, {0, 0}, {12}, nil, {18}, {0}}, api.Nat{6}}, {[]api.Nat{{0, 0, 4}, {0, 6}, {0, 0, 0, 2}}, api.Nat{0, 2}}, {[]api.Nat{{1}, nil}, api.Nat{1}}, {[]api.Nat{{4}, {1, 1, 1, 1}, {4}}, api.Nat{1}},
	} {
		if got := gcd.All(x.l...); !slices.Equal(got, x.want) {
			t.Error(x.l, got)
		}
	}
	for _, a := range numbers() {
		for _, b := range numbers() {
			want := gcd.All(a, b, api.Nat{30})
			if !slices.Equal(gcd.All(a, b), gcd.Gcd(a, b)) || !slices.Equal(gcd.Gcd(gcd.Gcd(a, b), api.Nat{30}), want) || !slices.Equal(gcd.All(api.Nat{30}, b, a), want) {
				t.Error(a, b, want)
			}
		}
	}
}

func TestCoprime(t *testing.T) {
	for _, x := range []struct {
		a, b api.Nat
		want bool
	}{
		{nil, nil, false}, {api.Nat{0, 0}, nil, false}, {nil, api.Nat{1}, true}, {api.Nat{1, 0}, api.Nat{0}, true}, {nil, api.Nat{2}, false}, {api.Nat{0, 1}, nil, false},
		{api.Nat{1}, api.Nat{1}, true}, {api.Nat{2}, api.Nat{2}, false}, {api.Nat{12}, api.Nat{18}, false}, {api.Nat{12}, api.Nat{35}, true}, {api.Nat{8}, api.Nat{9, 0}, true},
		{api.Nat{0, 0, 1}, api.Nat{1, 1, 1}, true}, {api.Nat{0, 0, 1}, api.Nat{2, 1, 1}, false}, {api.Nat{1, 1, 1, 1}, api.Nat{1, 1}, false}, {api.Nat{full, full, full, full}, api.Nat{0, 0, 0, 0, 1}, true},
	} {
		if got := gcd.Coprime(x.a, x.b); got != x.want {
			t.Error(x.a, x.b, got)
		}
	}
	for _, a := range numbers() {
		for _, b := range numbers() {
			if gcd.Coprime(a, b) != (greatest(a, b).Cmp(big.NewInt(1)) == 0) {
				t.Error(a, b)
			}
		}
	}
}

// P4.2

func TestReduce(t *testing.T) {
	for _, x := range []struct{ a, b, x, y api.Nat }{
		{api.Nat{12}, api.Nat{18}, api.Nat{2}, api.Nat{3}}, {api.Nat{18, 0}, api.Nat{12, 0}, api.Nat{3}, api.Nat{2}}, {nil, nil, nil, nil}, {api.Nat{0, 0}, api.Nat{}, nil, nil},
		{nil, api.Nat{5}, nil, api.Nat{1}}, {api.Nat{5, 0}, api.Nat{0}, api.Nat{1}, nil}, {api.Nat{0, 0, 7}, nil, api.Nat{1}, nil}, {api.Nat{8}, api.Nat{9}, api.Nat{8}, api.Nat{9}}, {api.Nat{8, 0, 0}, api.Nat{9, 9, 0}, api.Nat{8}, api.Nat{9, 9}},
		{api.Nat{7}, api.Nat{7}, api.Nat{1}, api.Nat{1}}, {api.Nat{0, 6}, api.Nat{0, 9}, api.Nat{2}, api.Nat{3}}, {api.Nat{0, 6}, api.Nat{0, 0, 9}, api.Nat{1}, api.Nat{half, 1}}, {api.Nat{full, full, full}, api.Nat{full, full}, api.Nat{1, 1, 1}, api.Nat{1, 1}},
	} {
		if gotX, gotY := gcd.Reduce(x.a, x.b); !slices.Equal(gotX, x.x) || !slices.Equal(gotY, x.y) {
			t.Error(x.a, x.b, gotX, gotY)
		}
	}
	for _, a := range append(numbers(), long(60)...) {
		for _, b := range append(numbers(), long(40)...) {
			wantX, wantY, common := new(big.Int), new(big.Int), greatest(a, b)
			if common.Sign() > 0 {
				wantX.Div(value(a), common)
				wantY.Div(value(b), common)
			}
			if x, y := gcd.Reduce(a, b); !isValue(x, wantX) || !isValue(y, wantY) {
				t.Error(a, b, x, y)
			}
		}
	}
}

func TestLcm(t *testing.T) {
	for _, x := range []struct{ a, b, want api.Nat }{
		{api.Nat{4}, api.Nat{6}, api.Nat{12}}, {api.Nat{6, 0}, api.Nat{4, 0}, api.Nat{12}}, {nil, nil, nil}, {nil, api.Nat{5}, nil}, {api.Nat{5}, api.Nat{0, 0}, nil}, {api.Nat{0, 0, 3}, nil, nil},
		{api.Nat{1}, api.Nat{1}, api.Nat{1}}, {api.Nat{1, 0}, api.Nat{5, 6}, api.Nat{5, 6}}, {api.Nat{7}, api.Nat{7}, api.Nat{7}}, {api.Nat{3}, api.Nat{12}, api.Nat{12}}, {api.Nat{8}, api.Nat{9}, api.Nat{72}}, {api.Nat{0, 4}, api.Nat{6}, api.Nat{0, 12}}, {api.Nat{half}, api.Nat{half | 1}, api.Nat{half, 1 << 30}},
	} {
		if got := gcd.Lcm(x.a, x.b); !slices.Equal(got, x.want) {
			t.Error(x.a, x.b, got)
		}
	}
	for _, a := range append(numbers(), long(60)...) {
		for _, b := range append(numbers(), long(40)...) {
			want := new(big.Int)
			if value(a).Sign() > 0 && value(b).Sign() > 0 {
				want.Div(want.Mul(value(a), value(b)), greatest(a, b))
			}
			if got := gcd.Lcm(a, b); !isValue(got, want) {
				t.Error(a, b, got)
			}
		}
	}
}

// P4.3

func TestItIsADivisorOfBothAndCommonOnesAreOfIt(t *testing.T) {
	for _, a := range numbers() {
		for _, b := range numbers() {
			g := gcd.Gcd(a, b)
			if !quot.Divides(g, a, b) || !slices.Equal(g, gcd.Gcd(b, a)) {
				t.Error(a, b, g)
			}
			for _, c := range numbers() {
				if quot.Divides(c, a, b) != quot.Divides(c, g) || !quot.Divides(gcd.All(a, b, c), a, b, c) {
					t.Fatal(a, b, c, g)
				}
			}
		}
	}
}

func TestWhatIsReducedHasNothingInCommon(t *testing.T) {
	for _, a := range append(numbers(), long(30)...) {
		for _, b := range append(numbers(), long(31)...) {
			x, y := gcd.Reduce(a, b)
			g := gcd.Gcd(a, b)
			if gcd.Coprime(x, y) != (len(g) > 0) || !slices.Equal(prod.Mul(x, b), prod.Mul(y, a)) {
				t.Error(a, b, x, y)
			}
			if !slices.Equal(prod.Mul(x, g), nat.Trim(a)) || !slices.Equal(prod.Mul(y, g), nat.Trim(b)) {
				t.Error(a, b, x, y, g)
			}
		}
	}
}

func TestGcdTimesLcmIsTheProduct(t *testing.T) {
	for _, a := range append(numbers(), long(30)...) {
		for _, b := range append(numbers(), long(31)...) {
			g, l := gcd.Gcd(a, b), gcd.Lcm(a, b)
			if !slices.Equal(prod.Mul(g, l), prod.Mul(a, b)) || !quot.Divides(a, l) || !quot.Divides(b, l) {
				t.Error(a, b, g, l)
			}
		}
	}
}

// R1, R3, R4

// calls are all calls that take numbers; each answers the numbers that it tells.
func calls() map[string]func(a, b api.Nat) []api.Nat {
	return map[string]func(a, b api.Nat) []api.Nat{
		"Gcd":        func(a, b api.Nat) []api.Nat { return []api.Nat{gcd.Gcd(a, b)} },
		"All":        func(a, b api.Nat) []api.Nat { return []api.Nat{gcd.All(a, b, a)} },
		"All of one": func(a, b api.Nat) []api.Nat { return []api.Nat{gcd.All(a)} },
		"Reduce":     func(a, b api.Nat) []api.Nat { x, y := gcd.Reduce(a, b); return []api.Nat{x, y} },
		"Lcm":        func(a, b api.Nat) []api.Nat { return []api.Nat{gcd.Lcm(a, b)} },
		"Coprime": func(a, b api.Nat) []api.Nat {
			if gcd.Coprime(a, b) {
				return []api.Nat{{1}}
			}
			return nil
		},
	}
}

func same(x, y []api.Nat) bool { return slices.EqualFunc(x, y, slices.Equal[api.Nat]) }

func copied(l []api.Nat) []api.Nat {
	all := make([]api.Nat, len(l))
	for i, a := range l {
		all[i] = slices.Clone(a)
	}
	return all
}

func TestWhatIsHandedInStays(t *testing.T) {
	for name, call := range calls() {
		for _, x := range numbers() {
			for _, y := range numbers() {
				// Both are pieces of longer lists, so that what is written behind them shows.
				a, b := append(slices.Clone(x), 11, 22), append(slices.Clone(y), 33, 44)
				l := []api.Nat{a, b}
				kept := copied(l)
				got := call(a[:len(x)], b[:len(y)])
				want := copied(got)
				if !same(l, kept) {
					t.Fatal(name, "changed", x, y)
				}
				clear(a)
				clear(b)
				if !same(got, want) {
					t.Fatal(name, "answers memory that was handed in", x, y)
				}
			}
		}
	}
}

func TestAnswersAreNew(t *testing.T) {
	for name, call := range calls() {
		for _, a := range numbers() {
			for _, b := range numbers() {
				want := copied(call(a, b))
				two := call(a, b)
				for i, one := range call(a, b) {
					others := call(a, b)
					room := others[i][:cap(others[i])]
					for j := range room {
						room[j] = 77
					}
					others[i] = one
					if !same(others, want) {
						t.Fatal(name, "answers two that share memory", a, b)
					}
				}
				if !same(two, want) || !same(call(a, b), want) {
					t.Fatal(name, "answers memory twice", a, b)
				}
			}
		}
	}
}

func TestListsStay(t *testing.T) {
	l := []api.Nat{{4, 0}, nil, {2, 2, 0}, {6, 0, 6}}
	gcd.All(l...)
	if !same(l, []api.Nat{{4, 0}, nil, {2, 2, 0}, {6, 0, 6}}) {
		t.Error(l)
	}
}

func TestNilAndEmptyAreTheSame(t *testing.T) {
	for name, call := range calls() {
		for _, a := range numbers() {
			if !same(call(a, nil), call(a, api.Nat{})) || !same(call(nil, a), call(api.Nat{}, a)) {
				t.Error(name, a)
			}
		}
	}
}
