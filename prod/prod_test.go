package prod_test

import (
	"math"
	"math/big"
	"slices"
	"testing"

	"strait/api"
	"strait/nat"
	"strait/prod"
)

const full = 1<<32 - 1

// numbers are ordinary ones and edges: nought in all its forms, full limbs, noughts between and last.
func numbers() []api.Nat {
	return []api.Nat{
		nil, {}, {0}, {0, 0, 0},
		{1}, {1, 0}, {2}, {7, 0, 0}, {10}, {1 << 31}, {full - 1}, {full}, {full, 0},
		{0, 1}, {1, 1}, {0, 1, 0}, {5, 9}, {full, full - 1}, {full, full}, {full, full, 0},
		{0, 0, 1}, {0, full, 1}, {full, full, full}, {12, 34, 56, 78}, {12, 34, 56, 78, 0, 0},
		{full, full, full, full, full}, {0, 0, 0, 0, 0, 1},
	}
}

// counts are ordinary ones and edges: below 0, whole limbs, the limit, beyond it.
func counts() []int {
	return []int{math.MinInt, -1 << 40, -33, -1, 0, 1, 2, 7, 31, 32, 33, 63, 64, 65, 100, 128, 255, 256, 257, 1000, 65535, 65536, 65537, 65600, 1 << 20, 1 << 40, math.MaxInt}
}

func clamped(k, most int) int { return min(max(k, 0), most) }

// mixed is n limbs of no order, the same ones each time, the last one not nought.
func mixed(n int) api.Nat {
	a := make(api.Nat, n)
	x := uint64(n) + 1
	for i := range a {
		x = x*6364136223846793005 + 1442695040888963407
		a[i] = uint32(x >> 32)
	}
	if n > 0 {
		a[n-1] |= 1
	}
	return a
}

func fulls(n int) api.Nat {
	a := make(api.Nat, n)
	for i := range a {
		a[i] = full
	}
	return a
}

// holed is n limbs, of which all but the lowest and the last one are nought.
func holed(n int) api.Nat {
	a := make(api.Nat, n)
	if n > 0 {
		a[0], a[n-1] = 3, 1<<31
	}
	return a
}

// value is what the words say that a number is.
func value(a api.Nat) *big.Int {
	bytes := make([]byte, 0, 4*len(a))
	for i := len(a) - 1; i >= 0; i-- {
		bytes = append(bytes, byte(a[i]>>24), byte(a[i]>>16), byte(a[i]>>8), byte(a[i]))
	}
	return new(big.Int).SetBytes(bytes)
}

func trimmed(a api.Nat) bool { return len(a) == 0 || a[len(a)-1] != 0 }

func wantValue(t *testing.T, got api.Nat, want *big.Int, what ...any) {
	t.Helper()
	if trimmed(got) && value(got).Cmp(want) == 0 {
		return
	}
	if len(got) > 50 {
		t.Error(append(what, "wrong, of limbs:", len(got))...)
		return
	}
	t.Error(append(what, "got", got, "want", want)...)
}

// P2.1

func TestMul(t *testing.T) {
	for _, x := range []struct{ a, b, want api.Nat }{
		{nil, nil, nil}, {api.Nat{5}, nil, nil}, {api.Nat{}, api.Nat{5, 6}, nil}, {api.Nat{0, 0}, api.Nat{7, 0}, nil},
		{api.Nat{1}, api.Nat{9, 8, 0}, api.Nat{9, 8}}, {api.Nat{6, 0, 0}, api.Nat{7, 0}, api.Nat{42}},
		{api.Nat{full}, api.Nat{full}, api.Nat{1, full - 1}}, {api.Nat{0, 1}, api.Nat{0, 0, 1}, api.Nat{0, 0, 0, 1}},
		{api.Nat{full, full}, api.Nat{full, full}, api.Nat{1, 0, full - 1, full}}, {api.Nat{1, 2}, api.Nat{3, 4}, api.Nat{3, 10, 8}},
	} {
		if got := prod.Mul(x.a, x.b); !slices.Equal(got, x.want) {
			t.Error(x.a, x.b, got)
		}
	}
	for _, a := range numbers() {
		for _, b := range numbers() {
			wantValue(t, prod.Mul(a, b), new(big.Int).Mul(value(a), value(b)), a, b)
		}
	}
}

func TestMulOfLongOnes(t *testing.T) {
	lengths := []int{0, 1, 2, 39, 40, 41, 79, 80, 81, 82, 120, 158, 159, 160, 161, 162, 163, 239, 240, 241, 320, 321, 400, 1001}
	for _, n := range lengths {
		for _, m := range lengths {
			for _, a := range []api.Nat{mixed(n), fulls(n), holed(n)} {
				for _, b := range []api.Nat{mixed(m), fulls(m), holed(m), append(mixed(m), 0, 0, 0)} {
					wantValue(t, prod.Mul(a, b), new(big.Int).Mul(value(a), value(b)), "limbs", n, m)
				}
			}
		}
	}
}

func TestMulOfVeryLongOnes(t *testing.T) {
	for _, x := range []struct{ n, m int }{{20000, 20000}, {30000, 17000}, {1, 200000}, {300, 100000}} {
		for _, a := range []api.Nat{mixed(x.n), fulls(x.n)} {
			b := mixed(x.m)
			want := new(big.Int).Mul(value(a), value(b))
			wantValue(t, prod.Mul(a, b), want, "limbs", x.n, x.m)
			wantValue(t, prod.Mul(b, a), want, "limbs", x.m, x.n)
		}
	}
}

func TestAll(t *testing.T) {
	for _, x := range []struct {
		l    []api.Nat
		want api.Nat
	}{
		{nil, api.Nat{1}}, {[]api.Nat{}, api.Nat{1}}, {[]api.Nat{nil}, nil}, {[]api.Nat{{0, 0}}, nil}, {[]api.Nat{{8, 0}}, api.Nat{8}},
		{[]api.Nat{{2}, {3}}, api.Nat{6}}, {[]api.Nat{{2}, {3}, {7, 0}}, api.Nat{42}}, {[]api.Nat{{2}, {3}, {0}, {5}}, nil},
		{[]api.Nat{{1}, {1, 0}, {1}}, api.Nat{1}}, {[]api.Nat{{1 << 16}, {1 << 16}, {0, 1}, {3}}, api.Nat{0, 0, 3}},
	} {
		if got := prod.All(x.l...); !slices.Equal(got, x.want) {
			t.Error(x.l, got)
		}
	}
	for _, a := range numbers() {
		for _, b := range numbers() {
			for _, c := range numbers() {
				want := new(big.Int).Mul(value(a), value(b))
				wantValue(t, prod.All(a, b, c), want.Mul(want, value(c)), a, b, c)
			}
		}
	}
}

func TestAllOfMany(t *testing.T) {
	for _, n := range []int{5, 6, 7, 8, 9, 100, 1 << 15} {
		l := make([]api.Nat, n)
		for i := range l {
			l[i] = api.Nat{full - uint32(i), 0}
		}
		got := prod.All(l...)
		wantValue(t, got, new(big.Int).MulRange(full-int64(n)+1, full), "numbers", n)
		slices.Reverse(l)
		if !slices.Equal(got, prod.All(l...)) {
			t.Error(n, "hangs on the order")
		}
		l[n/2] = nil
		if got := prod.All(l...); len(got) != 0 {
			t.Error(n, "nought is left out")
		}
	}
}

func TestBy(t *testing.T) {
	for _, x := range []struct {
		a    api.Nat
		n    uint32
		want api.Nat
	}{
		{nil, 0, nil}, {nil, 7, nil}, {api.Nat{5, 6}, 0, nil}, {api.Nat{5, 6, 0}, 1, api.Nat{5, 6}}, {api.Nat{full}, full, api.Nat{1, full - 1}}, {api.Nat{full, full}, 2, api.Nat{full - 1, full, 1}},
	} {
		if got := prod.By(x.a, x.n); !slices.Equal(got, x.want) {
			t.Error(x.a, x.n, got)
		}
	}
	for _, a := range append(numbers(), mixed(500), fulls(500)) {
		for _, n := range []uint32{0, 1, 2, 10, 1 << 16, 1 << 31, full - 1, full} {
			wantValue(t, prod.By(a, n), new(big.Int).Mul(value(a), big.NewInt(int64(n))), len(a), n)
		}
	}
}

// P2.2

func TestUp(t *testing.T) {
	for _, x := range []struct {
		a    api.Nat
		k    int
		want api.Nat
	}{
		{nil, 5, nil}, {api.Nat{0, 0}, 64, nil}, {api.Nat{1}, 33, api.Nat{0, 2}}, {api.Nat{1}, 0, api.Nat{1}}, {api.Nat{3, 0}, -1, api.Nat{3}},
		{api.Nat{1}, 31, api.Nat{1 << 31}}, {api.Nat{1}, 32, api.Nat{0, 1}}, {api.Nat{3}, 31, api.Nat{1 << 31, 1}}, {api.Nat{full, 1}, 4, api.Nat{full - 15, 31}}, {api.Nat{7, 8}, 64, api.Nat{0, 0, 7, 8}},
	} {
		if got := prod.Up(x.a, x.k); !slices.Equal(got, x.want) {
			t.Error(x.a, x.k, got)
		}
	}
	for _, a := range append(numbers(), mixed(300), fulls(2100)) {
		for _, k := range counts() {
			wantValue(t, prod.Up(a, k), new(big.Int).Lsh(value(a), uint(clamped(k, api.MaxShift))), len(a), k)
		}
	}
}

func TestDown(t *testing.T) {
	for _, x := range []struct {
		a    api.Nat
		k    int
		want api.Nat
	}{
		{nil, 5, nil}, {api.Nat{0, 0}, 0, nil}, {api.Nat{0, 2}, 33, api.Nat{1}}, {api.Nat{0, 2}, 34, nil}, {api.Nat{1}, 1, nil}, {api.Nat{7}, 1, api.Nat{3}}, {api.Nat{7, 0}, -9, api.Nat{7}},
		{api.Nat{full, full}, 31, api.Nat{full, 1}}, {api.Nat{full, full}, 32, api.Nat{full}}, {api.Nat{5, 6, 7}, 64, api.Nat{7}}, {api.Nat{5, 6, 1}, 65, nil}, {api.Nat{0, 0, 1, 0}, 33, api.Nat{1 << 31}},
	} {
		if got := prod.Down(x.a, x.k); !slices.Equal(got, x.want) {
			t.Error(x.a, x.k, got)
		}
	}
	for _, a := range append(numbers(), mixed(300), mixed(2047), fulls(2048), fulls(2049), mixed(2100)) {
		for _, k := range counts() {
			wantValue(t, prod.Down(a, k), new(big.Int).Rsh(value(a), uint(clamped(k, api.MaxShift))), len(a), k)
		}
	}
}

func TestBits(t *testing.T) {
	for _, x := range []struct {
		a    api.Nat
		want int
	}{
		{nil, 0}, {api.Nat{}, 0}, {api.Nat{0, 0}, 0}, {api.Nat{1}, 1}, {api.Nat{2, 0}, 2}, {api.Nat{255}, 8}, {api.Nat{256}, 9},
		{api.Nat{full}, 32}, {api.Nat{0, 1}, 33}, {api.Nat{0, 1 << 31, 0}, 64}, {api.Nat{0, 0, 1, 0}, 65},
		{fulls(2048), 65536}, {holed(3000), 96000}, {append(fulls(5000), 1), 160001},
	} {
		if got := prod.Bits(x.a); got != x.want {
			t.Error(len(x.a), got, x.want)
		}
	}
	for _, a := range numbers() {
		k := 0
		for len(prod.Down(a, k)) > 0 {
			k++
		}
		if got := prod.Bits(a); got != k {
			t.Error(a, got, k)
		}
	}
}

// P2.3

func TestPow(t *testing.T) {
	for _, x := range []struct {
		a    api.Nat
		k    int
		want api.Nat
	}{
		{nil, 0, api.Nat{1}}, {api.Nat{0, 0}, -5, api.Nat{1}}, {nil, 1, nil}, {api.Nat{0}, 9, nil}, {api.Nat{7}, 0, api.Nat{1}}, {api.Nat{7}, -1, api.Nat{1}}, {api.Nat{7, 0}, 1, api.Nat{7}},
		{api.Nat{7}, 2, api.Nat{49}}, {api.Nat{7}, 3, api.Nat{343}}, {api.Nat{2}, 33, api.Nat{0, 2}}, {api.Nat{1, 0}, math.MaxInt, api.Nat{1}}, {api.Nat{0, 1}, 3, api.Nat{0, 0, 0, 1}},
	} {
		if got := prod.Pow(x.a, x.k); !slices.Equal(got, x.want) {
			t.Error(x.a, x.k, got)
		}
	}
	for _, a := range append(numbers(), mixed(100)) {
		for _, k := range append(counts(), 3, 4, 5, 6, 127, 254) {
			want := new(big.Int).Exp(value(a), big.NewInt(int64(clamped(k, api.MaxPower))), nil)
			wantValue(t, prod.Pow(a, k), want, len(a), k)
		}
	}
}

func TestPowIsManyTimes(t *testing.T) {
	for _, a := range numbers() {
		for k := range 20 {
			if !slices.Equal(prod.Pow(a, k), prod.All(slices.Repeat([]api.Nat{a}, k)...)) {
				t.Error(a, k)
			}
		}
	}
}

// P2.4

func TestProductsHangOnNoOrder(t *testing.T) {
	for _, a := range numbers() {
		for _, b := range numbers() {
			if !slices.Equal(prod.Mul(a, b), prod.Mul(b, a)) {
				t.Fatal(a, b)
			}
			for _, c := range numbers() {
				product := prod.Mul(a, prod.Mul(b, c))
				for _, other := range []api.Nat{prod.Mul(prod.Mul(a, b), c), prod.All(a, b, c), prod.All(c, a, b), prod.All(b, c, a)} {
					if !slices.Equal(product, other) {
						t.Fatal(a, b, c)
					}
				}
			}
		}
	}
}

func TestProductOfASum(t *testing.T) {
	l := append(numbers(), mixed(90), fulls(170))
	for _, a := range l {
		for _, b := range l {
			for _, c := range l {
				if !slices.Equal(prod.Mul(a, nat.Add(b, c)), nat.Add(prod.Mul(a, b), prod.Mul(a, c))) {
					t.Fatal(len(a), len(b), len(c))
				}
			}
		}
	}
}

func TestDownOfUpIsTheNumber(t *testing.T) {
	for _, a := range append(numbers(), mixed(300)) {
		for _, k := range counts() {
			if !slices.Equal(prod.Down(prod.Up(a, k), k), nat.Trim(a)) {
				t.Error(len(a), k)
			}
		}
	}
}

func TestUpOfDownLosesWhatIsLeftOver(t *testing.T) {
	for _, a := range append(numbers(), mixed(300), mixed(2100)) {
		for _, k := range counts() {
			over := new(big.Int).Lsh(big.NewInt(1), uint(clamped(k, api.MaxShift)))
			over.Mod(value(a), over)
			wantValue(t, prod.Up(prod.Down(a, k), k), over.Sub(value(a), over), len(a), k)
		}
	}
}

func TestUpIsAProduct(t *testing.T) {
	for _, a := range numbers() {
		for _, k := range []int{-1, 0, 1, 31, 32, 33, 200, 256} {
			if !slices.Equal(prod.Up(a, k), prod.Mul(a, prod.Pow(api.Nat{2}, k))) {
				t.Error(a, k)
			}
		}
	}
}

func TestBitsOfAProduct(t *testing.T) {
	l := append(numbers(), mixed(99), fulls(200), holed(2500))
	for _, a := range l {
		for _, b := range l {
			got, both := prod.Bits(prod.Mul(a, b)), prod.Bits(a)+prod.Bits(b)
			if prod.Bits(a) == 0 || prod.Bits(b) == 0 {
				if got != 0 {
					t.Error(len(a), len(b), got)
				}
				continue
			}
			if got != both && got != both-1 {
				t.Error(len(a), len(b), got, both)
			}
		}
	}
}

// R1, R3, R4

// calls are all calls that take numbers; each answers the number that it tells.
func calls() map[string]func(a, b api.Nat) api.Nat {
	return map[string]func(a, b api.Nat) api.Nat{
		"Mul":        func(a, b api.Nat) api.Nat { return prod.Mul(a, b) },
		"All":        func(a, b api.Nat) api.Nat { return prod.All(a, b, a) },
		"All of one": func(a, b api.Nat) api.Nat { return prod.All(a) },
		"All of two": func(a, b api.Nat) api.Nat { return prod.All(a, api.Nat{1}) },
		"By 1":       func(a, b api.Nat) api.Nat { return prod.By(a, 1) },
		"By 9":       func(a, b api.Nat) api.Nat { return prod.By(a, 9) },
		"Up 0":       func(a, b api.Nat) api.Nat { return prod.Up(a, 0) },
		"Up 40":      func(a, b api.Nat) api.Nat { return prod.Up(a, 40) },
		"Down 0":     func(a, b api.Nat) api.Nat { return prod.Down(a, 0) },
		"Down 32":    func(a, b api.Nat) api.Nat { return prod.Down(a, 32) },
		"Bits":       func(a, b api.Nat) api.Nat { return nat.Of(uint64(prod.Bits(a))) },
		"Pow 0":      func(a, b api.Nat) api.Nat { return prod.Pow(a, 0) },
		"Pow 1":      func(a, b api.Nat) api.Nat { return prod.Pow(a, 1) },
		"Pow 3":      func(a, b api.Nat) api.Nat { return prod.Pow(a, 3) },
	}
}

// roomy is a in memory that goes on behind it.
func roomy(a api.Nat) (part, whole api.Nat) {
	whole = append(slices.Clone(a), 11, 22, 33)
	return whole[:len(a)], whole
}

func TestWhatIsHandedInStays(t *testing.T) {
	l := append(numbers(), mixed(81), mixed(300))
	for name, call := range calls() {
		for _, x := range l {
			for _, y := range l {
				a, wholeA := roomy(x)
				b, wholeB := roomy(y)
				keptA, keptB := slices.Clone(wholeA), slices.Clone(wholeB)
				got := call(a, b)
				want := slices.Clone(got)
				if !slices.Equal(wholeA, keptA) || !slices.Equal(wholeB, keptB) {
					t.Fatal(name, "changed", len(x), len(y))
				}
				clear(wholeA)
				clear(wholeB)
				if !slices.Equal(got, want) {
					t.Fatal(name, "answers memory that was handed in", len(x), len(y))
				}
			}
		}
	}
}

func TestAnswersAreNew(t *testing.T) {
	for name, call := range calls() {
		for _, a := range numbers() {
			for _, b := range numbers() {
				one, two := call(a, b), call(a, b)
				want := slices.Clone(two)
				one = one[:cap(one)]
				for i := range one {
					one[i] = 77
				}
				if !slices.Equal(two, want) || !slices.Equal(call(a, b), want) {
					t.Fatal(name, "answers memory twice", a, b)
				}
			}
		}
	}
}

func TestListsStay(t *testing.T) {
	l := []api.Nat{{3, 0}, {1}, {2, 2, 0}}
	prod.All(l...)
	for i, want := range []api.Nat{{3, 0}, {1}, {2, 2, 0}} {
		if !slices.Equal(l[i], want) {
			t.Error(i, l[i])
		}
	}
}

func TestNilAndEmptyAreTheSame(t *testing.T) {
	for name, call := range calls() {
		for _, a := range numbers() {
			if !slices.Equal(call(a, nil), call(a, api.Nat{})) || !slices.Equal(call(nil, a), call(api.Nat{}, a)) {
				t.Error(name, a)
			}
		}
	}
}
