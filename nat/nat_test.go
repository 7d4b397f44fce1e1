package nat_test

import (
	"math/big"
	"slices"
	"testing"

	"strait/api"
	"strait/nat"
)

const full = 1<<32 - 1

// numbers are ordinary ones and edges: nought in all its forms, full limbs, noughts between and last.
func numbers() []api.Nat {
	return []api.Nat{
		nil, {}, {0}, {0, 0, 0},
		{1}, {1, 0}, {2}, {7, 0, 0}, {full - 1}, {full}, {full, 0},
		{0, 1}, {1, 1}, {0, 1, 0}, {5, 9}, {9, 5}, {full, full - 1}, {full, full}, {full, full, 0},
		{0, 0, 1}, {1, 0, 1}, {0, full, 1}, {full, full, full}, {12, 34, 56, 78}, {12, 34, 56, 78, 0, 0},
		{full, full, full, full, full}, {0, 0, 0, 0, 0, 1},
	}
}

// value is what the words say that a number is.
func value(a api.Nat) *big.Int {
	v := new(big.Int)
	for i, limb := range a {
		v.Add(v, new(big.Int).Lsh(big.NewInt(int64(limb)), uint(32*i)))
	}
	return v
}

func trimmed(a api.Nat) bool { return len(a) == 0 || a[len(a)-1] != 0 }

func wantValue(t *testing.T, got api.Nat, want *big.Int, what ...any) {
	t.Helper()
	if !trimmed(got) || value(got).Cmp(want) != 0 {
		t.Error(append(what, "got", got, "want", want)...)
	}
}

// P1.1

func TestTrim(t *testing.T) {
	for _, x := range []struct{ a, want api.Nat }{
		{nil, nil}, {api.Nat{}, nil}, {api.Nat{0}, nil}, {api.Nat{0, 0, 0, 0}, nil},
		{api.Nat{5}, api.Nat{5}}, {api.Nat{5, 0}, api.Nat{5}}, {api.Nat{0, 5, 0, 0}, api.Nat{0, 5}},
		{api.Nat{0, 0, full}, api.Nat{0, 0, full}}, {api.Nat{1, 0, 2, 0, 3, 0}, api.Nat{1, 0, 2, 0, 3}},
	} {
		if got := nat.Trim(x.a); !slices.Equal(got, x.want) {
			t.Error(x.a, got)
		}
	}
	for _, a := range numbers() {
		wantValue(t, nat.Trim(a), value(a), a)
	}
}

func TestOf(t *testing.T) {
	for _, x := range []struct {
		n    uint64
		want api.Nat
	}{
		{0, nil}, {1, api.Nat{1}}, {full, api.Nat{full}}, {1 << 32, api.Nat{0, 1}}, {1<<33 + 7, api.Nat{7, 2}}, {1<<64 - 1, api.Nat{full, full}}, {1 << 63, api.Nat{0, 1 << 31}},
	} {
		if got := nat.Of(x.n); !slices.Equal(got, x.want) {
			t.Error(x.n, got)
		}
	}
}

func TestSmall(t *testing.T) {
	for _, x := range []struct {
		a  api.Nat
		n  uint64
		ok bool
	}{
		{nil, 0, true}, {api.Nat{}, 0, true}, {api.Nat{0, 0, 0, 0}, 0, true}, {api.Nat{9}, 9, true}, {api.Nat{0, 1}, 1 << 32, true},
		{api.Nat{full, full}, 1<<64 - 1, true}, {api.Nat{full, full, 0, 0}, 1<<64 - 1, true}, {api.Nat{3, 0, 0}, 3, true},
		{api.Nat{0, 0, 1}, 0, false}, {api.Nat{7, 8, 1}, 0, false}, {api.Nat{7, 8, 0, 1, 0}, 0, false},
	} {
		if n, ok := nat.Small(x.a); n != x.n || ok != x.ok {
			t.Error(x.a, n, ok)
		}
	}
	for _, n := range []uint64{0, 1, full, full + 1, 1<<63 + 5, 1<<64 - 1} {
		if got, ok := nat.Small(nat.Of(n)); got != n || !ok {
			t.Error(n, got, ok)
		}
	}
}

// P1.2

func TestCmp(t *testing.T) {
	for _, x := range []struct {
		a, b api.Nat
		want int
	}{
		{nil, api.Nat{}, 0}, {nil, api.Nat{0, 0}, 0}, {nil, api.Nat{1}, -1}, {api.Nat{0, 1}, api.Nat{full}, 1},
		{api.Nat{2, 7}, api.Nat{1, 8}, -1}, {api.Nat{2, 7}, api.Nat{1, 7}, 1}, {api.Nat{2, 7, 0, 0}, api.Nat{2, 7}, 0}, {api.Nat{1 << 31}, api.Nat{1}, 1},
	} {
		if got := nat.Cmp(x.a, x.b); got != x.want {
			t.Error(x.a, x.b, got)
		}
	}
	for _, a := range numbers() {
		for _, b := range numbers() {
			if got, want := nat.Cmp(a, b), value(a).Cmp(value(b)); got != want {
				t.Error(a, b, got, want)
			}
		}
	}
}

func TestLeast(t *testing.T) {
	for _, x := range []struct {
		l    []api.Nat
		want int
	}{
		{nil, -1}, {[]api.Nat{}, -1}, {[]api.Nat{nil}, 0}, {[]api.Nat{{3}}, 0},
		{[]api.Nat{{3}, {2}, {4}}, 1}, {[]api.Nat{{3}, {4}, {2}}, 2}, {[]api.Nat{{1}, {4}, {2}}, 0},
		{[]api.Nat{{5}, {2}, {2, 0}, {2}}, 1}, {[]api.Nat{{5}, {2, 0}, {2}}, 1},
		{[]api.Nat{{1}, {0}, nil, {}}, 1}, {[]api.Nat{{0, 1}, {full}, {full}}, 1}, {[]api.Nat{{0, 0, 1}, {1, 1}, {2, 0, 1}, {0, 2}}, 1},
	} {
		if got := nat.Least(x.l...); got != x.want {
			t.Error(x.l, got)
		}
	}
}

// P1.3

func TestAdd(t *testing.T) {
	for _, x := range []struct {
		l    []api.Nat
		want api.Nat
	}{
		{nil, nil}, {[]api.Nat{}, nil}, {[]api.Nat{nil, {}, {0, 0}}, nil}, {[]api.Nat{{8, 0}}, api.Nat{8}},
		{[]api.Nat{{full}, {1}}, api.Nat{0, 1}}, {[]api.Nat{{1}, {full, full, full}}, api.Nat{0, 0, 0, 1}},
		{[]api.Nat{{full, 0}, {full, 0}}, api.Nat{full - 1, 1}}, {[]api.Nat{{1, 2}, {3}, {4, 5, 6}}, api.Nat{8, 7, 6}},
	} {
		if got := nat.Add(x.l...); !slices.Equal(got, x.want) {
			t.Error(x.l, got)
		}
	}
	for _, a := range numbers() {
		for _, b := range numbers() {
			want := new(big.Int).Add(value(a), value(b))
			wantValue(t, nat.Add(a, b), want, a, b)
			for _, c := range numbers() {
				wantValue(t, nat.Add(a, b, c), new(big.Int).Add(want, value(c)), a, b, c)
			}
		}
	}
}

func TestAddOfMany(t *testing.T) {
	long := make(api.Nat, 1<<15)
	for i := range long {
		long[i] = full
	}
	l := []api.Nat{long}
	want := value(api.Nat{full})
	want.Mul(want, big.NewInt(1<<15))
	want.Add(want, new(big.Int).Lsh(big.NewInt(1), 32<<15))
	want.Sub(want, big.NewInt(1))
	for range 1 << 15 {
		l = append(l, api.Nat{full})
	}
	wantBits(t, nat.Add(l...), want)
	slices.Reverse(l)
	wantBits(t, nat.Add(l...), want)
}

// wantBits is wantValue for numbers so long that value takes too many steps.
func wantBits(t *testing.T, got api.Nat, want *big.Int) {
	t.Helper()
	if !trimmed(got) || len(got) != (want.BitLen()+31)/32 {
		t.Fatal(len(got), want.BitLen())
	}
	bytes := want.FillBytes(make([]byte, 4*len(got)))
	slices.Reverse(bytes)
	for i, limb := range got {
		b := bytes[4*i:]
		if w := uint32(b[0]) | uint32(b[1])<<8 | uint32(b[2])<<16 | uint32(b[3])<<24; limb != w {
			t.Fatal(i, limb, w)
		}
	}
}

func TestSub(t *testing.T) {
	for _, x := range []struct {
		a, b, want api.Nat
		e          api.Errno
	}{
		{nil, nil, nil, api.OK}, {api.Nat{0, 0}, nil, nil, api.OK}, {api.Nat{5, 0}, nil, api.Nat{5}, api.OK},
		{api.Nat{7}, api.Nat{5}, api.Nat{2}, api.OK}, {api.Nat{0, 0, 0, 1}, api.Nat{1}, api.Nat{full, full, full}, api.OK},
		{api.Nat{0, 5}, api.Nat{1, 4, 0, 0}, api.Nat{full}, api.OK}, {api.Nat{3, 5, 0}, api.Nat{3, 5}, nil, api.OK},
		{api.Nat{1}, api.Nat{2}, nil, api.ErrLess}, {nil, api.Nat{1}, nil, api.ErrLess}, {api.Nat{full, 0}, api.Nat{0, 1}, nil, api.ErrLess}, {api.Nat{9, 9, 4}, api.Nat{0, 0, 5}, nil, api.ErrLess},
	} {
		if got, e := nat.Sub(x.a, x.b); !slices.Equal(got, x.want) || e != x.e {
			t.Error(x.a, x.b, got, e)
		}
	}
	for _, a := range numbers() {
		for _, b := range numbers() {
			got, e := nat.Sub(a, b)
			d := new(big.Int).Sub(value(a), value(b))
			if d.Sign() < 0 {
				if e != api.ErrLess || len(got) != 0 {
					t.Error(a, b, got, e)
				}
				continue
			}
			wantValue(t, got, d, a, b)
			if e != api.OK {
				t.Error(a, b, e)
			}
		}
	}
}

// P1.4

func TestSumsHangOnNoOrder(t *testing.T) {
	for _, a := range numbers() {
		for _, b := range numbers() {
			for _, c := range numbers() {
				sum := nat.Add(a, b, c)
				for _, other := range []api.Nat{nat.Add(c, b, a), nat.Add(b, a, c), nat.Add(nat.Add(a, b), c), nat.Add(a, nat.Add(b, c))} {
					if !slices.Equal(sum, other) {
						t.Fatal(a, b, c, sum, other)
					}
				}
			}
		}
	}
}

func TestSumLessOneIsTheOther(t *testing.T) {
	for _, a := range numbers() {
		for _, b := range numbers() {
			sum := nat.Add(a, b)
			if d, e := nat.Sub(sum, b); e != api.OK || !slices.Equal(d, nat.Trim(a)) {
				t.Error(a, b, d, e)
			}
			if d, e := nat.Sub(sum, a); e != api.OK || !slices.Equal(d, nat.Trim(b)) {
				t.Error(a, b, d, e)
			}
		}
	}
}

func TestOneIsLessOrTheyAreTheSame(t *testing.T) {
	for _, a := range numbers() {
		for _, b := range numbers() {
			c := nat.Cmp(a, b)
			if c < -1 || c > 1 || nat.Cmp(b, a) != -c || (c == 0) != slices.Equal(nat.Trim(a), nat.Trim(b)) {
				t.Error(a, b, c)
			}
			if _, e := nat.Sub(a, b); (e == api.ErrLess) != (c < 0) {
				t.Error(a, b, c, e)
			}
		}
	}
}

func TestAddingKeepsTheOrder(t *testing.T) {
	for _, a := range numbers() {
		for _, b := range numbers() {
			for _, c := range numbers() {
				if nat.Cmp(nat.Add(a, c), nat.Add(c, b)) != nat.Cmp(a, b) {
					t.Fatal(a, b, c)
				}
			}
		}
	}
}

// R1, R4

// calls are all calls that take numbers; each answers the numbers that it tells.
func calls() map[string]func(a, b api.Nat) api.Nat {
	return map[string]func(a, b api.Nat) api.Nat{
		"Trim":       func(a, b api.Nat) api.Nat { return nat.Trim(a) },
		"Small":      func(a, b api.Nat) api.Nat { n, _ := nat.Small(a); return nat.Of(n) },
		"Cmp":        func(a, b api.Nat) api.Nat { return nat.Of(uint64(nat.Cmp(a, b) + 1)) },
		"Least":      func(a, b api.Nat) api.Nat { return nat.Of(uint64(nat.Least(a, b) + 1)) },
		"Add":        func(a, b api.Nat) api.Nat { return nat.Add(a, b) },
		"Add of one": func(a, b api.Nat) api.Nat { return nat.Add(a) },
		"Sub":        func(a, b api.Nat) api.Nat { d, _ := nat.Sub(a, b); return d },
	}
}

// roomy is a in memory that goes on behind it.
func roomy(a api.Nat) (part, whole api.Nat) {
	whole = append(slices.Clone(a), 11, 22, 33)
	return whole[:len(a)], whole
}

func TestWhatIsHandedInStays(t *testing.T) {
	for name, call := range calls() {
		for _, x := range numbers() {
			for _, y := range numbers() {
				a, wholeA := roomy(x)
				b, wholeB := roomy(y)
				keptA, keptB := slices.Clone(wholeA), slices.Clone(wholeB)
				got := call(a, b)
				want := slices.Clone(got)
				if !slices.Equal(wholeA, keptA) || !slices.Equal(wholeB, keptB) {
					t.Fatal(name, "changed", x, y)
				}
				clear(wholeA)
				clear(wholeB)
				if !slices.Equal(got, want) {
					t.Fatal(name, "answers memory that was handed in", x, y)
				}
			}
		}
	}
}

func TestAnswersAreNew(t *testing.T) {
	for name, call := range calls() {
		for _, a := range numbers() {
			for _, b := range numbers() {
				one, two := call(a, b), call(a, b)
				want := slices.Clone(two)
				one = one[:cap(one)]
				for i := range one {
					one[i] = 77
				}
				if !slices.Equal(two, want) || !slices.Equal(call(a, b), want) {
					t.Fatal(name, "answers memory twice", a, b)
				}
			}
		}
	}
}

func TestListsStay(t *testing.T) {
	l := []api.Nat{{3, 0}, {1}, {2, 2, 0}}
	nat.Add(l...)
	nat.Least(l...)
	for i, want := range []api.Nat{{3, 0}, {1}, {2, 2, 0}} {
		if !slices.Equal(l[i], want) {
			t.Error(i, l[i])
		}
	}
}

func TestNilAndEmptyAreTheSame(t *testing.T) {
	for name, call := range calls() {
		for _, a := range numbers() {
			if !slices.Equal(call(a, nil), call(a, api.Nat{})) || !slices.Equal(call(nil, a), call(api.Nat{}, a)) {
				t.Error(name, a)
			}
		}
	}
}
