package digits_test

import (
	"cmp"
	"math/big"
	"slices"
	"strconv"
	"strings"
	"testing"

	"strait/api"
	"strait/digits"
	"strait/prod"
)

const (
	full = 1<<32 - 1
	half = 1 << 31
)

// noughts are all forms of nought.
func noughts() []api.Nat { return []api.Nat{nil, {}, {0}, {0, 0, 0}} }

// numbers are noughts, ordinary ones and edges: one limb, two and more, full limbs, noughts between and last, and what is next to places' ends.
func numbers() []api.Nat {
	l := append(noughts(), []api.Nat{
		{1}, {1, 0}, {7}, {9}, {10}, {11}, {99}, {100, 0, 0}, {123456789}, {half}, {full}, {full, 0},
		{0, 1}, {1, 1}, {0, 1, 0}, {5, 9}, {full, half - 1}, {0, half}, {full, full}, {full, full, 0, 0},
		{0, 0, 1}, {0, full, 1}, {full, full, full}, {12, 34, 56, 78, 0, 0}, {0, 0, 0, 0, 0, 0, 0, 1},
	}...)
	for k := range 74 {
		power := tenTo(k)
		l = append(l, natOf(power), natOf(new(big.Int).Sub(power, big.NewInt(1))), natOf(new(big.Int).Add(power, big.NewInt(1))))
	}
	return l
}

// mixed is a number of n limbs without order: the same one each time.
func mixed(n int, seed uint64) api.Nat {
	a := make(api.Nat, n)
	x := seed
	for i := range a {
		x = x*6364136223846793005 + 1442695040888963407
		a[i] = uint32(x >> 32)
	}
	a[n-1] |= 1
	return a
}

func tenTo(k int) *big.Int { return new(big.Int).Exp(big.NewInt(10), big.NewInt(int64(k)), nil) }

// value is what the words say that a number is.
func value(a api.Nat) *big.Int {
	v := make([]byte, 0, 4*len(a))
	for _, limb := range slices.Backward(a) {
		v = append(v, byte(limb>>24), byte(limb>>16), byte(limb>>8), byte(limb))
	}
	return new(big.Int).SetBytes(v)
}

// natOf is value's other way about.
func natOf(v *big.Int) api.Nat {
	var a api.Nat
	for i, b := range slices.Backward(v.Bytes()) {
		place := len(v.Bytes()) - 1 - i
		if place%4 == 0 {
			a = append(a, 0)
		}
		a[place/4] |= uint32(b) << (place % 4 * 8)
	}
	return a
}

// isTrimmed: is it as numbers are told?
func isTrimmed(a api.Nat) bool { return len(a) == 0 || a[len(a)-1] != 0 }

func ints() []api.Int {
	var l []api.Int
	for _, abs := range numbers() {
		l = append(l, api.Int{Abs: abs}, api.Int{Neg: true, Abs: abs})
	}
	return l
}

func intValue(x api.Int) *big.Int {
	v := value(x.Abs)
	if x.Neg {
		v.Neg(v)
	}
	return v
}

// shown is a text to tell of, cut short.
func shown(s string) string { return strconv.Quote(s[:min(len(s), 80)]) }

// P6.1

func TestText(t *testing.T) {
	for _, x := range []struct {
		a    api.Nat
		want string
	}{
		{nil, "0"}, {api.Nat{}, "0"}, {api.Nat{0, 0}, "0"}, {api.Nat{7}, "7"}, {api.Nat{7, 0}, "7"}, {api.Nat{10}, "10"}, {api.Nat{999999999}, "999999999"}, {api.Nat{1000000000}, "1000000000"}, {api.Nat{1000000001}, "1000000001"},
		{api.Nat{full}, "4294967295"}, {api.Nat{0, 1}, "4294967296"}, {api.Nat{0, 1, 0, 0}, "4294967296"}, {api.Nat{full, full}, "18446744073709551615"}, {api.Nat{0, 0, 1}, "18446744073709551616"},
		{api.Nat{2808348672, 232830643}, "1000000000000000000"}, {api.Nat{2808348671, 232830643}, "999999999999999999"}, {api.Nat{0, 0, 0, 1}, "79228162514264337593543950336"},
	} {
		if got := digits.Text(x.a); got != x.want {
			t.Error(x.a, got)
		}
	}
	for _, a := range numbers() {
		if got := digits.Text(a); got != value(a).String() {
			t.Error(a, got)
		}
	}
}

func TestTextOfPowersOfTen(t *testing.T) {
	for _, k := range []int{74, 143, 144, 145, 287, 288, 289, 575, 576, 577, 1151, 1152, 1153, 5000} {
		power := tenTo(k)
		for _, x := range []struct {
			more int64
			want string
		}{
			{0, "1" + strings.Repeat("0", k)}, {-1, strings.Repeat("9", k)}, {7, "1" + strings.Repeat("0", k-1) + "7"},
		} {
			a := natOf(new(big.Int).Add(power, big.NewInt(x.more)))
			if got := digits.Text(a); got != x.want {
				t.Error(k, x.more, shown(got))
			}
			if got := digits.Count(a); got != len(x.want) {
				t.Error(k, x.more, got)
			}
		}
	}
}

func TestTextOfLongOnes(t *testing.T) {
	for _, n := range []int{9, 30, 31, 64, 257, 1000, 2049, 6000} {
		for _, a := range []api.Nat{mixed(n, uint64(n)), slices.Repeat(api.Nat{full}, n), append(make(api.Nat, n-1), 1), append(mixed(n, 3), 0, 0, 0)} {
			want := value(a).String()
			if got := digits.Text(a); got != want {
				t.Error(n, shown(got))
			}
			if got := digits.Count(a); got != len(want) {
				t.Error(n, got)
			}
		}
	}
}

func TestIntText(t *testing.T) {
	for _, abs := range noughts() {
		for _, neg := range []bool{false, true} {
			if got := digits.IntText(api.Int{Neg: neg, Abs: abs}); got != "0" {
				t.Error(neg, abs, got)
			}
		}
	}
	for _, x := range []struct {
		x    api.Int
		want string
	}{
		{api.Int{Abs: api.Nat{5}}, "5"}, {api.Int{Neg: true, Abs: api.Nat{5}}, "-5"}, {api.Int{Neg: true, Abs: api.Nat{5, 0}}, "-5"}, {api.Int{Neg: true, Abs: api.Nat{1000000000}}, "-1000000000"}, {api.Int{Neg: true, Abs: api.Nat{0, 1}}, "-4294967296"},
	} {
		if got := digits.IntText(x.x); got != x.want {
			t.Error(x.x, got)
		}
	}
	for _, x := range ints() {
		if got := digits.IntText(x); got != intValue(x).String() {
			t.Error(x, got)
		}
	}
}

func TestCount(t *testing.T) {
	for _, x := range []struct {
		a    api.Nat
		want int
	}{
		{nil, 1}, {api.Nat{}, 1}, {api.Nat{0, 0}, 1}, {api.Nat{9}, 1}, {api.Nat{9, 0}, 1}, {api.Nat{10}, 2}, {api.Nat{99}, 2}, {api.Nat{100}, 3}, {api.Nat{999999}, 6}, {api.Nat{1000000}, 7},
		{api.Nat{999999999}, 9}, {api.Nat{1000000000}, 10}, {api.Nat{0, 1}, 10}, {api.Nat{full, full}, 20}, {api.Nat{0, 0, 1, 0}, 20},
	} {
		if got := digits.Count(x.a); got != x.want {
			t.Error(x.a, got)
		}
	}
	for _, a := range numbers() {
		if got := digits.Count(a); got != len(digits.Text(a)) {
			t.Error(a, got)
		}
	}
}

func TestAll(t *testing.T) {
	for _, x := range []struct {
		l    []api.Nat
		want []string
	}{
		{nil, nil}, {[]api.Nat{}, nil}, {[]api.Nat{nil}, []string{"0"}}, {noughts(), []string{"0", "0", "0", "0"}}, {[]api.Nat{{0, 1}}, []string{"4294967296"}},
		{[]api.Nat{{3}, {1, 0}, nil, {2}, {1}}, []string{"3", "1", "0", "2", "1"}},
	} {
		if got := digits.All(x.l...); !slices.Equal(got, x.want) {
			t.Error(x.l, got)
		}
	}
	got := digits.All(numbers()...)
	for i, a := range numbers() {
		if got[i] != value(a).String() {
			t.Error(i, a, got[i])
		}
	}
}

// P6.2

// naturals are texts that read as naturals: ordinary ones, with noughts ahead, about places' ends, as long as may be.
func naturals() []string {
	l := []string{
		"0", "1", "7", "9", "10", "42", "007", "00", "4294967295", "4294967296", "18446744073709551615", "18446744073709551616", "0123456789", "00000000000000000001", "98765432109876543210987654321",
		strings.Repeat("0", api.MaxWord), strings.Repeat("9", api.MaxWord), strings.Repeat("0", api.MaxWord-1) + "1", "1" + strings.Repeat("0", api.MaxWord-1), strings.Repeat("1234567890", api.MaxWord/10),
	}
	for n := 1; n <= api.MaxWord; n++ {
		l = append(l, strings.Repeat("9", n), "1"+strings.Repeat("0", n-1), strings.Repeat("0", n), strings.Repeat("0", n-1)+"3", strings.Repeat("8070605040", 6)[:n])
	}
	return l
}

// wrong are texts that read as nothing, with a - ahead, or two, or not.
func wrong() []string {
	l := []string{
		"", "+1", "+", "+0", " ", " 1", "1 ", "1 2", "\n", "1\n", "1\x00", "\x00", "x", "1x", "x1", "1e3", "0x10", "1_000", "1,000", "1.0", ".5", "1/2", "/", ":", "1:", "/1", "1-", "1-2", "0-0",
		"٣", "１", "²", "1１", "é", "\xff", "1\xff", "\xb1", "\xc3", "NaN", "Inf", "--1", "--", "- 1", "-+1", "+-1",
		strings.Repeat("0", api.MaxWord+1), strings.Repeat("1", api.MaxWord+1), "0" + strings.Repeat("9", api.MaxWord), strings.Repeat("7", 1000), strings.Repeat("１", 20), strings.Repeat("1", 1<<20),
	}
	for n := range api.MaxWord {
		// A byte that is none, at each place.
		for _, b := range []string{"/", ":", "-", "+", " ", "a", "\x00", "\xff"} {
			if n > 0 || b != "-" {
				l = append(l, strings.Repeat("1", n)+b+strings.Repeat("1", api.MaxWord-1-n))
			}
		}
	}
	return l
}

func wantParsed(t *testing.T, s string) {
	t.Helper()
	want, _ := new(big.Int).SetString(s, 10)
	if got, e := digits.Parse(s); e != api.OK || !isTrimmed(got) || value(got).Cmp(want) != 0 {
		t.Error(s, got, e)
	}
}

func TestParse(t *testing.T) {
	for _, x := range []struct {
		s    string
		want api.Nat
	}{
		{"0", nil}, {"000", nil}, {"7", api.Nat{7}}, {"007", api.Nat{7}}, {"4294967295", api.Nat{full}}, {"4294967296", api.Nat{0, 1}}, {"04294967296", api.Nat{0, 1}}, {"18446744073709551615", api.Nat{full, full}}, {"1000000000", api.Nat{1000000000}}, {"999999999", api.Nat{999999999}},
	} {
		if got, e := digits.Parse(x.s); e != api.OK || !slices.Equal(got, x.want) {
			t.Error(x.s, got, e)
		}
	}
	for _, s := range naturals() {
		wantParsed(t, s)
	}
}

func TestParseOfWhatIsNone(t *testing.T) {
	for _, s := range append(wrong(), "-1", "-0", "-", "-"+strings.Repeat("1", api.MaxWord), "-"+strings.Repeat("1", api.MaxWord-1)) {
		if got, e := digits.Parse(s); e != api.ErrNumber || got != nil {
			t.Error(shown(s), got, e)
		}
	}
}

func TestParseInt(t *testing.T) {
	for _, x := range []struct {
		s    string
		neg  bool
		want api.Nat
	}{
		{"0", false, nil}, {"-0", false, nil}, {"-000", false, nil}, {"-" + strings.Repeat("0", api.MaxWord), false, nil}, {"5", false, api.Nat{5}}, {"-5", true, api.Nat{5}}, {"-007", true, api.Nat{7}}, {"007", false, api.Nat{7}}, {"-4294967296", true, api.Nat{0, 1}},
	} {
		if got, e := digits.ParseInt(x.s); e != api.OK || got.Neg != x.neg || !slices.Equal(got.Abs, x.want) {
			t.Error(x.s, got, e)
		}
	}
	for _, s := range naturals() {
		for _, signed := range []string{s, "-" + s} {
			want, _ := new(big.Int).SetString(signed, 10)
			got, e := digits.ParseInt(signed)
			if e != api.OK || !isTrimmed(got.Abs) || got.Neg != (want.Sign() < 0) || intValue(got).Cmp(want) != 0 {
				t.Error(signed, got, e)
			}
		}
	}
}

func TestParseIntOfWhatIsNone(t *testing.T) {
	for _, s := range wrong() {
		for _, signed := range []string{s, "-" + s, "--" + s} {
			if got, e := digits.ParseInt(signed); e != api.ErrNumber || got.Neg || got.Abs != nil {
				t.Error(shown(signed), got, e)
			}
		}
	}
	for _, s := range []string{"-", "--0", "0-", "-1-", "−1"} {
		if got, e := digits.ParseInt(s); e != api.ErrNumber || got.Neg || got.Abs != nil {
			t.Error(s, got, e)
		}
	}
}

// P6.3

func TestWhatIsToldIsParsedAsTheNumber(t *testing.T) {
	for _, x := range ints() {
		text := digits.Text(x.Abs)
		abs, e := digits.Parse(text)
		whole, eInt := digits.ParseInt(digits.IntText(x))
		if len(text) > api.MaxWord {
			if e != api.ErrNumber || eInt != api.ErrNumber {
				t.Error(text, e, eInt)
			}
			continue
		}
		if e != api.OK || !slices.Equal(abs, natOf(value(x.Abs))) {
			t.Error(text, abs, e)
		}
		if v := intValue(x); eInt != api.OK || whole.Neg != (v.Sign() < 0) || !slices.Equal(whole.Abs, abs) {
			t.Error(x, whole, eInt)
		}
	}
}

func TestWhatIsParsedIsToldWithoutNoughtsAhead(t *testing.T) {
	for _, s := range naturals() {
		want := strings.TrimLeft(s, "0")
		if want == "" {
			want = "0"
		}
		a, e := digits.Parse(s)
		if got := digits.Text(a); e != api.OK || got != want || digits.Count(a) != len(want) {
			t.Error(s, got, e)
		}
		if want != "0" {
			want = "-" + want
		}
		x, e := digits.ParseInt("-" + s)
		if got := digits.IntText(x); e != api.OK || got != want {
			t.Error(s, got, e)
		}
	}
}

func TestOrderOfTextsOfAsManyDigits(t *testing.T) {
	l := numbers()
	for k := range 40 {
		l = append(l, mixed(1+k%7, uint64(k)))
	}
	for _, a := range l {
		for _, b := range l {
			order := value(a).Cmp(value(b))
			x, y := digits.Text(a), digits.Text(b)
			if len(x) == len(y) && strings.Compare(x, y) != order || len(x) != len(y) && cmp.Compare(len(x), len(y)) != order {
				t.Error(x, y)
			}
		}
	}
}

// R1, R3, R4

func TestWhatIsHandedInStays(t *testing.T) {
	calls := map[string]func(a api.Nat) string{
		"Text":    digits.Text,
		"IntText": func(a api.Nat) string { return digits.IntText(api.Int{Neg: true, Abs: a}) },
		"Count":   func(a api.Nat) string { return strconv.Itoa(digits.Count(a)) },
		"All":     func(a api.Nat) string { return strings.Join(digits.All(a, a), " ") },
	}
	for name, call := range calls {
		for _, x := range append(numbers(), mixed(100, 1), append(mixed(100, 2), 0, 0)) {
			// It is a piece of a longer list, so that what is written behind it shows.
			a := append(slices.Clone(x), 11, 22)
			kept := slices.Clone(a)
			got := call(a[:len(x)])
			if !slices.Equal(a, kept) {
				t.Fatal(name, "changed", x)
			}
			clear(a)
			if want := call(x); got != want {
				t.Fatal(name, x, got, want)
			}
		}
	}
}

func TestListsStay(t *testing.T) {
	l := []api.Nat{{4, 0}, nil, {2, 2, 0}, {6, 0, 6}, {1}, {2}}
	digits.All(l[:4]...)
	if want := []api.Nat{{4, 0}, nil, {2, 2, 0}, {6, 0, 6}, {1}, {2}}; !slices.EqualFunc(l, want, slices.Equal[api.Nat]) {
		t.Error(l)
	}
}

func TestAnswersAreNew(t *testing.T) {
	texts := digits.All(api.Nat{1}, api.Nat{2})
	other := digits.All(api.Nat{1}, api.Nat{2})
	texts[0] = "9"
	if other[0] != "1" || digits.All(api.Nat{1})[0] != "1" {
		t.Error(other)
	}
	for _, s := range append(naturals(), "-0") {
		want, _ := digits.ParseInt(s)
		kept := slices.Clone(want.Abs)
		one, _ := digits.Parse(s)
		for _, a := range []api.Nat{one, want.Abs} {
			room := a[:cap(a)]
			for i := range room {
				room[i] = 77
			}
			if again, _ := digits.ParseInt(s); !slices.Equal(again.Abs, kept) {
				t.Error(s, again)
			}
		}
	}
}

func TestTextOfAPower(t *testing.T) {
	a := prod.Up(api.Nat{1}, api.MaxShift)
	if got := digits.Count(a); got != 19729 {
		t.Error(got)
	}
}
