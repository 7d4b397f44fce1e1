package line_test

import (
	"bytes"
	"iter"
	"math/big"
	"regexp"
	"slices"
	"strconv"
	"strings"
	"testing"

	"strait/api"
	"strait/line"
	"strait/rat"
	"strait/sint"
)

const full = 1<<32 - 1

// by is a rational as it stands there, normalised or not.
func by(num api.Int, den ...uint32) api.Rat { return api.Rat{Num: num, Den: den} }

func above(limbs ...uint32) api.Int { return api.Int{Abs: limbs} }

func below(limbs ...uint32) api.Int { return api.Int{Neg: true, Abs: limbs} }

// of is a rational of little numbers, as it is told if they have nothing in common.
func of(n int, d uint32) api.Rat { return by(sint.Of(n), d) }

func natValue(a api.Nat) *big.Int {
	l := make([]byte, 0, 4*len(a))
	for _, limb := range slices.Backward(a) {
		l = append(l, byte(limb>>24), byte(limb>>16), byte(limb>>8), byte(limb))
	}
	return new(big.Int).SetBytes(l)
}

// natOf is natValue's other way about.
func natOf(v *big.Int) api.Nat {
	var a api.Nat
	l := v.Bytes()
	slices.Reverse(l)
	for i, b := range l {
		if i%4 == 0 {
			a = append(a, 0)
		}
		a[i/4] |= uint32(b) << (i % 4 * 8)
	}
	return a
}

// value is what the words say that a rational counts as.
func value(r api.Rat) *big.Rat {
	num, den := natValue(r.Num.Abs), natValue(r.Den)
	if den.Sign() == 0 {
		return new(big.Rat)
	}
	if r.Num.Neg {
		num.Neg(num)
	}
	return new(big.Rat).SetFrac(num, den)
}

// ofValue is value's other way about, as it is told.
func ofValue(v *big.Rat) api.Rat {
	return api.Rat{Num: api.Int{Neg: v.Sign() < 0, Abs: natOf(v.Num())}, Den: natOf(v.Denom())}
}

// equal: the same limbs and signs?
func equal(a, b api.Rat) bool {
	return a.Num.Neg == b.Num.Neg && slices.Equal(a.Num.Abs, b.Num.Abs) && slices.Equal(a.Den, b.Den)
}

func copied(r api.Rat) api.Rat {
	return api.Rat{Num: api.Int{Neg: r.Num.Neg, Abs: slices.Clone(r.Num.Abs)}, Den: slices.Clone(r.Den)}
}

// texts gives all texts of at most so many of these bytes.
func texts(letters string, most int) iter.Seq[string] {
	return func(yield func(string) bool) {
		var grow func(head string) bool
		grow = func(head string) bool {
			if !yield(head) {
				return false
			}
			for i := range len(letters) {
				if len(head) < most && !grow(head+letters[i:i+1]) {
					return false
				}
			}
			return true
		}
		grow("")
	}
}

func shown(s string) string { return strconv.Quote(s[:min(len(s), 100)]) }

// P11.1

func TestLines(t *testing.T) {
	for _, x := range []struct {
		text string
		want []string
		e    api.Errno
	}{
		{"", nil, api.OK}, {"a\n", []string{"a"}, api.OK}, {"a\nb\n", []string{"a", "b"}, api.OK}, {"robot 0 0 1 0 0 1\nquery 0 0 1 1\n", []string{"robot 0 0 1 0 0 1", "query 0 0 1 1"}, api.OK},
		{" \n", []string{" "}, api.OK}, {"a\r\nb\r\n", []string{"a\r", "b\r"}, api.OK}, {"\r\n", []string{"\r"}, api.OK}, {"\x00\n\xff\xfe\n", []string{"\x00", "\xff\xfe"}, api.OK}, {"a\v\f\u0085\u2028b\n", []string{"a\v\f\u0085\u2028b"}, api.OK}, {"b\na\nb\n", []string{"b", "a", "b"}, api.OK},
		{"\n", nil, api.ErrLine}, {"\n\n", nil, api.ErrLine}, {"a", nil, api.ErrLine}, {"a\nb", nil, api.ErrLine}, {"a\n\n", nil, api.ErrLine}, {"\na\n", nil, api.ErrLine}, {"a\n\nb\n", nil, api.ErrLine}, {"a\r", nil, api.ErrLine}, {" ", nil, api.ErrLine}, {"a\nb\nc\n\n", nil, api.ErrLine}, {"a\n ", nil, api.ErrLine},
	} {
		if got, e := line.Lines(x.text); e != x.e || !slices.Equal(got, x.want) {
			t.Errorf("%q: %q, %d", x.text, got, e)
		}
	}
}

// wantLines goes by the words, byte by byte.
func wantLines(text string) ([]string, api.Errno) {
	var all []string
	var open []byte
	for _, b := range []byte(text) {
		switch {
		case b != 0x0A:
			open = append(open, b)
		case len(open) == 0:
			return nil, api.ErrLine
		default:
			all, open = append(all, string(open)), nil
		}
	}
	if len(open) > 0 {
		return nil, api.ErrLine
	}
	return all, api.OK
}

func TestLinesOfAllShortTexts(t *testing.T) {
	for text := range texts("a\n \r", 7) {
		want, wantE := wantLines(text)
		if got, e := line.Lines(text); e != wantE || !slices.Equal(got, want) {
			t.Fatalf("%q: %q, %d", text, got, e)
		}
	}
}

func TestWords(t *testing.T) {
	for _, x := range []struct {
		s    string
		want []string
		e    api.Errno
	}{
		{"a", []string{"a"}, api.OK}, {"a b", []string{"a", "b"}, api.OK}, {"robot 0 0 1 0 0 1/2", []string{"robot", "0", "0", "1", "0", "0", "1/2"}, api.OK}, {"b a b", []string{"b", "a", "b"}, api.OK},
		{"a\tb", []string{"a\tb"}, api.OK}, {"a\nb \n", []string{"a\nb", "\n"}, api.OK}, {"\t \r", []string{"\t", "\r"}, api.OK}, {"a\u00a0b\u3000c d", []string{"a\u00a0b\u3000c", "d"}, api.OK}, {"\x00 \xff", []string{"\x00", "\xff"}, api.OK},
		{"", nil, api.ErrLine}, {" ", nil, api.ErrLine}, {"  ", nil, api.ErrLine}, {" a", nil, api.ErrLine}, {"a ", nil, api.ErrLine}, {"a  b", nil, api.ErrLine}, {"a b  c d", nil, api.ErrLine}, {"a b c ", nil, api.ErrLine}, {" a b", nil, api.ErrLine},
	} {
		if got, e := line.Words(x.s); e != x.e || !slices.Equal(got, x.want) {
			t.Errorf("%q: %q, %d", x.s, got, e)
		}
	}
}

// wantWords goes by the words, byte by byte.
func wantWords(s string) ([]string, api.Errno) {
	all := []string{""}
	for i := range len(s) {
		if s[i] == 0x20 {
			all = append(all, "")
		} else {
			all[len(all)-1] += s[i : i+1]
		}
	}
	if slices.Contains(all, "") {
		return nil, api.ErrLine
	}
	return all, api.OK
}

func TestWordsOfAllShortTexts(t *testing.T) {
	for s := range texts("a \n\t", 7) {
		want, wantE := wantWords(s)
		if got, e := line.Words(s); e != wantE || !slices.Equal(got, want) {
			t.Fatalf("%q: %q, %d", s, got, e)
		}
	}
}

func TestJoin(t *testing.T) {
	for _, x := range []struct {
		words []string
		want  string
	}{
		{nil, ""}, {[]string{}, ""}, {[]string{"a"}, "a"}, {[]string{"a", "b"}, "a b"}, {[]string{"query", "0", "-1/2", "3", "4"}, "query 0 -1/2 3 4"}, {[]string{"b", "a", "b"}, "b a b"},
		{[]string{""}, ""}, {[]string{"", ""}, " "}, {[]string{"", "a", ""}, " a "}, {[]string{"a b", "c"}, "a b c"}, {[]string{"a\n", "\xff"}, "a\n \xff"}, {[]string{" ", " "}, "   "},
	} {
		if got := line.Join(x.words...); got != x.want {
			t.Errorf("%q: %q", x.words, got)
		}
	}
}

// P11.2

func TestNumber(t *testing.T) {
	nines := strings.Repeat("9", 60)
	for _, x := range []struct {
		s      string
		want   api.Rat
		digits int
	}{
		{"0", of(0, 1), 1}, {"7", of(7, 1), 1}, {"-7", of(-7, 1), 1}, {"-07/2", of(-7, 2), 2}, {"1/2", of(1, 2), 1}, {"2/4", of(1, 2), 1}, {"-6/3", of(-2, 1), 1}, {"12/345", of(4, 115), 3}, {"123/45", of(41, 15), 3},
		{"-0", of(0, 1), 1}, {"000", of(0, 1), 3}, {"-0/5", of(0, 1), 1}, {"0/12345", of(0, 1), 5}, {"-00/007", of(0, 1), 3}, {"1/01", of(1, 1), 2}, {"007", of(7, 1), 3}, {"0001/2", of(1, 2), 4}, {"3/0004", of(3, 4), 4}, {"5/5", of(1, 1), 1}, {"-5/5", of(-1, 1), 1}, {"10/1", of(10, 1), 2},
		{"4294967296", by(above(0, 1), 1), 10}, {"-1/4294967296", by(below(1), 0, 1), 10}, {"18446744073709551616/4294967295", by(above(0, 0, 1), full), 20},
		{nines, ofValue(valueOf(nines, "1")), 60}, {"-" + nines, ofValue(valueOf("-"+nines, "1")), 60}, {"1/" + nines, ofValue(valueOf("1", nines)), 60}, {nines + "/" + nines, of(1, 1), 60}, {"-" + nines + "/7", ofValue(valueOf("-"+nines, "7")), 60},
		{strings.Repeat("0", 60), of(0, 1), 60}, {strings.Repeat("0", 59) + "1/" + strings.Repeat("0", 58) + "2", of(1, 2), 60}, {"-" + strings.Repeat("0", 59) + "3", of(-3, 1), 60},
	} {
		if got, digits, e := line.Number(x.s); e != api.OK || digits != x.digits || !equal(got, x.want) {
			t.Error(x.s, got, digits, e)
		}
	}
}

func valueOf(num, den string) *big.Rat {
	n, _ := new(big.Int).SetString(num, 10)
	d, _ := new(big.Int).SetString(den, 10)
	return new(big.Rat).SetFrac(n, d)
}

func TestNumberByNought(t *testing.T) {
	for s, digits := range map[string]int{"1/0": 1, "1/00": 2, "0/0": 1, "-0/0": 1, "-1/0": 1, "123/0": 3, "-123/00": 3, "0/00000": 5, "1/" + strings.Repeat("0", 60): 60, strings.Repeat("9", 60) + "/0": 60, "-" + strings.Repeat("9", 60) + "/00": 60} {
		if got, n, e := line.Number(s); e != api.ErrZero || n != digits || !equal(got, api.Rat{}) {
			t.Error(s, got, n, e)
		}
	}
}

func TestNumberOfWhatIsNone(t *testing.T) {
	long := strings.Repeat("1", 61)
	for _, s := range []string{
		"", "-", "/", "-/", "+1", "1/", "/1", "1/-2", "1/+2", "-/1", "--1", "1-", "1-2", "- 1", " 1", "1 ", "1 /2", "1/ 2", "1/2/3", "1//2", "/1/2", "1/2/", "1/0/", "1/0/2", "/0", "+1/0", "1/-0", "x/0", "1/0x", "1.5", "1e3", "0x1", "1_0", "a", "1a", "1/a", "1/2a", "1\n", "\n", "1\x00", "\xff", "-\xff/1",
		"\u0661", "\uff11", "1/\u0662", "\u2212" + "1", "1\u20442", "\u00bd", "Inf", "NaN", "robot",
		long, "-" + long, "1/" + long, long + "/1", long + "/" + long, long + "/0", "1/" + strings.Repeat("0", 61), strings.Repeat("0", 61), "-" + strings.Repeat("0", 60) + "1", strings.Repeat("9", 60) + "/" + long, strings.Repeat("1", 1<<20), "1/" + strings.Repeat("0", 1<<20), strings.Repeat("/", 1<<20), strings.Repeat("-", 1<<20),
	} {
		if got, n, e := line.Number(s); e != api.ErrNumber || n != 0 || !equal(got, api.Rat{}) {
			t.Error(shown(s), got, n, e)
		}
	}
}

var number = regexp.MustCompile(`\A(-?)([0-9]{1,60})(/([0-9]{1,60}))?\z`)

// wantNumber goes by the words.
func wantNumber(s string) (r api.Rat, digits int, e api.Errno) {
	m := number.FindStringSubmatch(s)
	if m == nil {
		return api.Rat{}, 0, api.ErrNumber
	}
	digits = max(len(m[2]), len(m[4]))
	if m[3] == "" {
		return ofValue(valueOf(m[1]+m[2], "1")), digits, api.OK
	}
	if strings.Trim(m[4], "0") == "" {
		return api.Rat{}, digits, api.ErrZero
	}
	return ofValue(valueOf(m[1]+m[2], m[4])), digits, api.OK
}

func TestNumberOfAllShortTexts(t *testing.T) {
	for s := range texts("0146-/+", 6) {
		want, wantN, wantE := wantNumber(s)
		if got, n, e := line.Number(s); e != wantE || n != wantN || !equal(got, want) {
			t.Fatal(s, got, n, e)
		}
	}
}

// Each byte, in each place of a number, is one of its own or makes it none.
func TestNumberOfAllBytes(t *testing.T) {
	for _, s := range []string{"1", "-1", "12/34", "-5/6"} {
		for i := range len(s) {
			for b := range 256 {
				l := []byte(s)
				l[i] = byte(b)
				want, wantN, wantE := wantNumber(string(l))
				if got, n, e := line.Number(string(l)); e != wantE || n != wantN || !equal(got, want) {
					t.Fatalf("%q: %v, %d, %d", l, got, n, e)
				}
			}
		}
	}
}

// P11.3

// rationals are noughts, ordinary ones and edges, normalised or not, with their texts.
func rationals() map[string][]api.Rat {
	return map[string][]api.Rat{
		"0":    {{}, of(0, 1), by(below(), 1), by(below(0, 0), 7, 0), by(above(5)), by(below(5), 0), by(below(1, 2), 0, 0), by(above(), 0)},
		"1":    {of(1, 1), of(2, 2), by(above(1, 0), 1, 0), by(above(full, full), full, full)},
		"-1":   {of(-1, 1), of(-3, 3), by(below(0, 4, 0), 0, 4)},
		"7":    {of(7, 1), of(14, 2)},
		"-7/2": {of(-7, 2), of(-21, 6), by(below(7, 0), 2, 0, 0)},
		"1/2":  {of(1, 2), of(500, 1000), by(above(0, 1), 0, 2)},
		"3/2":  {of(3, 2), of(6, 4)},
		"1/10": {of(1, 10)}, "10": {of(10, 1), of(100, 10)}, "1/11": {of(1, 11)}, "-1000000000": {of(-1000000000, 1)},
		"4294967296":                       {by(above(0, 1), 1), by(above(0, 2), 2)},
		"-1/4294967296":                    {by(below(1), 0, 1), by(below(3, 0), 0, 3)},
		"18446744073709551616/4294967295":  {by(above(0, 0, 1), full)},
		"-18446744073709551616/4294967295": {by(below(0, 0, 2), full-1, 1)},
	}
}

func TestText(t *testing.T) {
	for want, l := range rationals() {
		for _, r := range l {
			if got := line.Text(r); got != want {
				t.Error(r, got, want)
			}
		}
	}
}

func TestTextOfLittleOnes(t *testing.T) {
	for n := -30; n <= 30; n++ {
		for d := range uint32(31) {
			r := of(n, d)
			if got := line.Text(r); got != value(r).RatString() {
				t.Fatal(n, d, got)
			}
		}
	}
}

// long are n limbs without order: the same ones each time.
func long(n int, seed uint64) api.Nat {
	a := make(api.Nat, n)
	for i := range a {
		seed = seed*6364136223846793005 + 1442695040888963407
		a[i] = uint32(seed >> 32)
	}
	a[n-1] |= 1
	return a
}

func TestTextOfLongOnes(t *testing.T) {
	for n := range 60 {
		for _, r := range []api.Rat{by(api.Int{Neg: n%2 > 0, Abs: long(n+1, uint64(n))}, long(60-n, 7)...), by(api.Int{Neg: n%2 == 0, Abs: long(n+1, 3)}, 1)} {
			if got := line.Text(r); got != value(r).RatString() {
				t.Fatal(n, shown(got))
			}
		}
	}
}

// P11.4

func TestLinesAndWordsPutTogetherAreTheText(t *testing.T) {
	for text := range texts("a\n ", 8) {
		lines, e := line.Lines(text)
		if e != api.OK {
			continue
		}
		var whole strings.Builder
		for _, l := range lines {
			whole.WriteString(l + "\n")
			if words, e := line.Words(l); e == api.OK && line.Join(words...) != l {
				t.Fatalf("%q: %q", l, words)
			}
		}
		if whole.String() != text {
			t.Fatalf("%q: %q", text, lines)
		}
	}
	for _, words := range [][]string{{"a"}, {"robot", "0", "1/2"}, {"a", "b", "a", "\n"}} {
		if got, e := line.Words(line.Join(words...)); e != api.OK || !slices.Equal(got, words) {
			t.Error(words, got, e)
		}
	}
}

func TestWhatIsToldReadsAsItIs(t *testing.T) {
	l := []api.Rat{by(api.Int{Neg: true, Abs: long(6, 1)}, long(6, 2)...), by(above(long(6, 3)...), 1), by(below(1), long(6, 4)...), by(below(full, full, full), full, full-1)}
	for _, told := range rationals() {
		l = append(l, told...)
	}
	for _, r := range l {
		s := line.Text(r)
		got, n, e := line.Number(s)
		num, den, _ := strings.Cut(strings.TrimPrefix(s, "-"), "/")
		if e != api.OK || !equal(got, rat.Norm(r)) || n != max(len(num), len(den)) {
			t.Error(s, got, n, e)
		}
	}
	most := new(big.Int).Exp(big.NewInt(10), big.NewInt(60), nil)
	if _, _, e := line.Number(line.Text(by(above(natOf(most)...), 1))); e != api.ErrNumber {
		t.Error("61 digits", e)
	}
	if got, n, e := line.Number(line.Text(by(above(natOf(most.Sub(most, big.NewInt(1)))...), 1))); e != api.OK || n != 60 || natValue(got.Num.Abs).Cmp(most) != 0 {
		t.Error("60 digits", got, n, e)
	}
}

func TestWhatIsReadAndToldIsReadAgain(t *testing.T) {
	for s := range texts("0246-/", 6) {
		r, n, e := line.Number(s)
		if e != api.OK {
			continue
		}
		again, m, e := line.Number(line.Text(r))
		if e != api.OK || !equal(again, r) || m > n {
			t.Fatal(s, r, again, n, m, e)
		}
	}
}

// R1, R3, R4

func TestWhatIsHandedInStays(t *testing.T) {
	words := []string{"a", "b", "c", "d", "e"}
	if got := line.Join(words[1:3]...); got != "b c" || !slices.Equal(words, []string{"a", "b", "c", "d", "e"}) {
		t.Error(got, words)
	}
	for want, l := range rationals() {
		for _, r := range l {
			num, den := append(slices.Clone(r.Num.Abs), 11, 22), append(slices.Clone(r.Den), 33, 44)
			wholeNum, wholeDen := slices.Clone(num), slices.Clone(den)
			part := api.Rat{Num: api.Int{Neg: r.Num.Neg, Abs: num[:len(r.Num.Abs)]}, Den: den[:len(r.Den)]}
			if got := line.Text(part); got != want || !equal(part, r) || !slices.Equal(num, wholeNum) || !slices.Equal(den, wholeDen) {
				t.Error(want, got, num, den)
			}
		}
	}
}

func TestAnswersAreNew(t *testing.T) {
	for _, s := range []string{"0", "1", "-7", "6/4", "-0/5", "1/4294967296", strings.Repeat("9", 60) + "/7"} {
		two, _, _ := line.Number(s)
		want := copied(two)
		r, _, _ := line.Number(s)
		clear(r.Num.Abs[:cap(r.Num.Abs)])
		clear(r.Den[:cap(r.Den)])
		if again, _, _ := line.Number(s); !equal(two, want) || !equal(again, want) {
			t.Error(s, two, again)
		}
		num, den := two.Num.Abs[:cap(two.Num.Abs)], two.Den[:cap(two.Den)]
		clear(num)
		if slices.Equal(den, make([]uint32, len(den))) {
			t.Error(s, "tells both its parts in one memory")
		}
	}
	for name, call := range map[string]func() ([]string, api.Errno){"Lines": func() ([]string, api.Errno) { return line.Lines("a\nb\nc\n") }, "Words": func() ([]string, api.Errno) { return line.Words("a b c") }} {
		one, _ := call()
		two, _ := call()
		clear(one[:cap(one)])
		if again, _ := call(); !slices.Equal(two, []string{"a", "b", "c"}) || !slices.Equal(again, two) {
			t.Error(name, two, again)
		}
	}
}

// It is enough that they end, with what is told as the words say.
func TestLongTexts(t *testing.T) {
	const n = 1 << 20
	lines, e := line.Lines(strings.Repeat("ab\n", n))
	if e != api.OK || len(lines) != n || lines[0] != "ab" || lines[n-1] != "ab" {
		t.Error(len(lines), e)
	}
	words, e := line.Words(strings.Repeat("ab ", n-1) + "c")
	if e != api.OK || len(words) != n || words[0] != "ab" || words[n-1] != "c" {
		t.Error(len(words), e)
	}
	if got := line.Join(words...); got != strings.Repeat("ab ", n-1)+"c" {
		t.Error(shown(got))
	}
	whole := string(bytes.Repeat([]byte{'a'}, 1<<24))
	if got, e := line.Lines(whole + "\n"); e != api.OK || len(got) != 1 || got[0] != whole {
		t.Error(len(got), e)
	}
	for _, none := range []string{strings.Repeat("\n", 1<<24), strings.Repeat("a\n", 1<<22) + "\n", whole} {
		if got, e := line.Lines(none); e != api.ErrLine || len(got) != 0 {
			t.Error(shown(none), len(got), e)
		}
	}
	for _, none := range []string{strings.Repeat(" ", 1<<24), strings.Repeat("a ", 1<<22)} {
		if got, e := line.Words(none); e != api.ErrLine || len(got) != 0 {
			t.Error(shown(none), len(got), e)
		}
	}
}
