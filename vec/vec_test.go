package vec_test

import (
	"math"
	"math/big"
	"slices"
	"testing"

	"strait/api"
	"strait/rat"
	"strait/vec"
)

const full = 1<<32 - 1

func above(limbs ...uint32) api.Int { return api.Int{Abs: limbs} }

func below(limbs ...uint32) api.Int { return api.Int{Neg: true, Abs: limbs} }

// by is a rational as it stands there, normalised or not.
func by(num api.Int, den ...uint32) api.Rat { return api.Rat{Num: num, Den: den} }

// of is a rational of little numbers as it stands there.
func of(n int, d uint32) api.Rat {
	if n < 0 {
		return by(below(uint32(-n)), d)
	}
	return by(above(uint32(n)), d)
}

// pt is a point of fractions as they stand there.
func pt(xn int, xd uint32, yn int, yd uint32) api.Pt { return api.Pt{X: of(xn, xd), Y: of(yn, yd)} }

// at is a point of whole numbers.
func at(x, y int) api.Pt {
	return told(new(big.Rat).SetInt64(int64(x)), new(big.Rat).SetInt64(int64(y)))
}

// numbers are noughts of all forms, ordinary ones and edges, with either sign, normalised or not.
func numbers() []api.Rat {
	return []api.Rat{
		{}, by(above(0), 1), by(below(0, 0), 6, 0), by(below(5), 0), by(above(7)), by(above(), 0, 0),
		of(1, 1), of(-1, 1), of(3, 3), by(below(6, 0), 4, 0, 0), of(1, 3), of(-35, 60), of(12, 4),
		by(above(full), full-1), by(below(full-1), full), by(above(0, 1), 3), by(below(1), 0, 1), by(below(5, 9), 9, 5), by(above(12, 34, 56), 78, 90, 12, 0),
	}
}

// points are each of numbers beside each fourth other one.
func points() []api.Pt {
	var l []api.Pt
	for i, x := range numbers() {
		for j, y := range numbers() {
			if (i+j)%4 == 0 {
				l = append(l, api.Pt{X: x, Y: y})
			}
		}
	}
	return l
}

// few are some of points, for what goes over three of them.
func few() []api.Pt {
	return []api.Pt{{}, pt(1, 1, 0, 1), pt(0, 5, -1, 1), pt(5, 0, 2, 3), pt(-6, 4, -35, 60), {X: by(above(full), full-1), Y: by(below(1), 0, 1)}, {X: by(below(0, 1), 3), Y: by(above(5, 9), 9, 5, 0)}, pt(1, 3, 1, 3), pt(-7, 2, 9, 1)}
}

func natValue(a api.Nat) *big.Int {
	v := new(big.Int)
	for _, limb := range slices.Backward(a) {
		v.Lsh(v, 32).Add(v, big.NewInt(int64(limb)))
	}
	return v
}

// natOf is natValue's other way about.
func natOf(v *big.Int) api.Nat {
	var a api.Nat
	for v := new(big.Int).Set(v); v.Sign() > 0; v.Rsh(v, 32) {
		a = append(a, uint32(new(big.Int).And(v, big.NewInt(full)).Uint64()))
	}
	return a
}

// value is what the words say that a rational counts as.
func value(r api.Rat) *big.Rat {
	num, den := natValue(r.Num.Abs), natValue(r.Den)
	if den.Sign() == 0 {
		return new(big.Rat)
	}
	if r.Num.Neg {
		num.Neg(num)
	}
	return new(big.Rat).SetFrac(num, den)
}

func values(p api.Pt) (x, y *big.Rat) { return value(p.X), value(p.Y) }

// toldRat is a number as it is told.
func toldRat(v *big.Rat) api.Rat {
	abs := new(big.Int).Abs(v.Num())
	return api.Rat{Num: api.Int{Neg: v.Sign() < 0, Abs: natOf(abs)}, Den: natOf(v.Denom())}
}

// told is a point as it is told.
func told(x, y *big.Rat) api.Pt { return api.Pt{X: toldRat(x), Y: toldRat(y)} }

// equal: are they told alike, limb by limb?
func equal(a, b api.Rat) bool {
	return a.Num.Neg == b.Num.Neg && slices.Equal(a.Num.Abs, b.Num.Abs) && slices.Equal(a.Den, b.Den)
}

func equalPts(a, b api.Pt) bool { return equal(a.X, b.X) && equal(a.Y, b.Y) }

func plus(a, b *big.Rat) *big.Rat { return new(big.Rat).Add(a, b) }

func less(a, b *big.Rat) *big.Rat { return new(big.Rat).Sub(a, b) }

func times(a, b *big.Rat) *big.Rat { return new(big.Rat).Mul(a, b) }

func wantPt(t *testing.T, got api.Pt, x, y *big.Rat, what ...any) {
	t.Helper()
	if want := told(x, y); !equalPts(got, want) {
		t.Fatal(append(what, "got", got, "want", want)...)
	}
}

func wantRat(t *testing.T, got api.Rat, v *big.Rat, what ...any) {
	t.Helper()
	if want := toldRat(v); !equal(got, want) {
		t.Fatal(append(what, "got", got, "want", want)...)
	}
}

// P8.1

func TestNorm(t *testing.T) {
	got := vec.Norm(pt(2, 4, -6, 4), pt(5, 0, 0, 3), at(3, -4), api.Pt{}, api.Pt{X: by(below(0, 4, 0), 0, 6), Y: by(above(1), 0, 1, 0)})
	want := []api.Pt{pt(1, 2, -3, 2), at(0, 0), at(3, -4), at(0, 0), {X: of(-2, 3), Y: by(above(1), 0, 1)}}
	if !slices.EqualFunc(got, want, equalPts) {
		t.Error(got)
	}
	all := points()
	got = vec.Norm(all...)
	if len(got) != len(all) {
		t.Fatal(len(got))
	}
	for i, p := range all {
		x, y := values(p)
		wantPt(t, got[i], x, y, p)
	}
}

func TestNormOfNoPoints(t *testing.T) {
	if got := vec.Norm(); len(got) != 0 {
		t.Error(got)
	}
	if got := vec.Norm([]api.Pt{}...); len(got) != 0 {
		t.Error(got)
	}
}

func TestOf(t *testing.T) {
	for _, x := range []struct {
		x, y int
		want api.Pt
	}{
		{0, 0, api.Pt{X: by(above(), 1), Y: by(above(), 1)}}, {1, -2, pt(1, 1, -2, 1)}, {-7, 0, api.Pt{X: of(-7, 1), Y: by(above(), 1)}},
		{math.MaxInt, math.MinInt, api.Pt{X: by(above(full, full>>1), 1), Y: by(below(0, 1<<31), 1)}}, {1 << 32, -full, api.Pt{X: by(above(0, 1), 1), Y: by(below(full), 1)}},
	} {
		if got := vec.Of(x.x, x.y); !equalPts(got, x.want) {
			t.Error(x.x, x.y, got)
		}
	}
}

func TestAddSubNegScale(t *testing.T) {
	a, b := pt(1, 2, -2, 3), pt(2, 4, 1, 3)
	for i, x := range []struct{ got, want api.Pt }{
		{vec.Add(a, b), pt(1, 1, -1, 3)}, {vec.Sub(a, b), api.Pt{X: by(above(), 1), Y: of(-1, 1)}}, {vec.Sub(b, a), api.Pt{X: by(above(), 1), Y: of(1, 1)}}, {vec.Neg(a), pt(-1, 2, 2, 3)}, {vec.Neg(api.Pt{}), at(0, 0)},
		{vec.Scale(a, of(-6, 4)), pt(-3, 4, 1, 1)}, {vec.Scale(a, of(6, 0)), at(0, 0)}, {vec.Scale(a, api.Rat{}), at(0, 0)}, {vec.Scale(a, of(1, 1)), a}, {vec.Scale(pt(5, 0, 4, 2), of(3, 1)), at(0, 6)},
		{vec.Add(pt(5, 0, 1, 2), pt(1, 2, 5, 0)), pt(1, 2, 1, 2)}, {vec.Sub(api.Pt{}, pt(3, 6, -4, 2)), pt(-1, 2, 2, 1)},
	} {
		if !equalPts(x.got, x.want) {
			t.Error(i, x.got)
		}
	}
}

func TestPartByPart(t *testing.T) {
	for _, a := range points() {
		ax, ay := values(a)
		wantPt(t, vec.Neg(a), new(big.Rat).Neg(ax), new(big.Rat).Neg(ay), a)
		for _, r := range numbers() {
			wantPt(t, vec.Scale(a, r), times(ax, value(r)), times(ay, value(r)), a, r)
		}
		for _, b := range points() {
			bx, by := values(b)
			wantPt(t, vec.Add(a, b), plus(ax, bx), plus(ay, by), a, b)
			wantPt(t, vec.Sub(a, b), less(ax, bx), less(ay, by), a, b)
		}
	}
}

// P8.2

func TestCrossAndDot(t *testing.T) {
	for _, x := range []struct {
		a, b       api.Pt
		cross, dot api.Rat
	}{
		{at(1, 0), at(0, 1), of(1, 1), by(above(), 1)}, {at(0, 1), at(1, 0), of(-1, 1), by(above(), 1)}, {at(2, 3), at(4, 6), by(above(), 1), of(26, 1)}, {at(2, 3), at(5, 7), of(-1, 1), of(31, 1)}, {at(-2, 3), at(5, 7), of(-29, 1), of(11, 1)},
		{pt(1, 2, 1, 3), pt(2, 3, 3, 4), of(11, 72), of(7, 12)}, {pt(5, 0, 2, 1), pt(3, 2, 7, 0), of(-3, 1), by(above(), 1)}, {api.Pt{}, at(3, 4), by(above(), 1), by(above(), 1)},
	} {
		if got := vec.Cross(x.a, x.b); !equal(got, x.cross) {
			t.Error("cross", x.a, x.b, got)
		}
		if got := vec.Dot(x.a, x.b); !equal(got, x.dot) {
			t.Error("dot", x.a, x.b, got)
		}
	}
	for _, a := range points() {
		for _, b := range points() {
			ax, ay := values(a)
			bx, by := values(b)
			wantRat(t, vec.Cross(a, b), less(times(ax, by), times(ay, bx)), "cross", a, b)
			wantRat(t, vec.Dot(a, b), plus(times(ax, bx), times(ay, by)), "dot", a, b)
		}
	}
}

func TestAt(t *testing.T) {
	for _, x := range []struct {
		a, b api.Pt
		t    api.Rat
		want api.Pt
	}{
		{at(0, 0), at(4, 2), of(1, 2), at(2, 1)}, {at(4, 2), at(0, 0), of(1, 4), pt(3, 1, 3, 2)}, {at(1, 1), at(3, -5), of(2, 1), at(5, -11)}, {at(1, 1), at(3, -5), of(-1, 1), at(-1, 7)}, {at(1, 1), at(3, -5), of(6, 4), at(4, -8)},
		{at(7, 9), at(7, 9), of(13, 5), at(7, 9)}, {at(7, 9), at(1, 2), of(3, 0), at(7, 9)}, {at(7, 9), at(1, 2), api.Rat{}, at(7, 9)}, {pt(5, 0, 1, 3), pt(1, 1, 5, 0), of(1, 3), pt(1, 3, 2, 9)},
	} {
		if got := vec.At(x.a, x.b, x.t); !equalPts(got, x.want) {
			t.Error(x.a, x.b, x.t, got)
		}
	}
	for _, a := range points() {
		for _, b := range few() {
			for _, r := range numbers() {
				ax, ay := values(a)
				bx, by := values(b)
				wantPt(t, vec.At(a, b, r), plus(ax, times(value(r), less(bx, ax))), plus(ay, times(value(r), less(by, ay))), a, b, r)
			}
		}
	}
}

func TestFar(t *testing.T) {
	for _, x := range []struct {
		a, b api.Pt
		want api.Rat
	}{
		{at(1, 2), at(4, -2), of(7, 1)}, {at(4, -2), at(1, 2), of(7, 1)}, {at(-4, -5), at(-1, -1), of(7, 1)}, {at(3, 3), at(3, 3), by(above(), 1)}, {at(3, 3), at(3, 4), of(1, 1)}, {at(3, 3), at(2, 3), of(1, 1)},
		{pt(1, 2, 1, 3), pt(1, 3, 1, 2), of(1, 3)}, {pt(5, 0, 2, 4), pt(0, 1, 1, 2), by(above(), 1)}, {api.Pt{}, pt(-6, 4, 3, 0), of(3, 2)},
	} {
		if got := vec.Far(x.a, x.b); !equal(got, x.want) {
			t.Error(x.a, x.b, got)
		}
	}
	for _, a := range points() {
		for _, b := range points() {
			ax, ay := values(a)
			bx, by := values(b)
			dx, dy := less(ax, bx), less(ay, by)
			wantRat(t, vec.Far(a, b), plus(dx.Abs(dx), dy.Abs(dy)), a, b)
		}
	}
}

// P8.3

func TestCmpAndSame(t *testing.T) {
	for _, x := range []struct {
		a, b api.Pt
		want int
	}{
		{at(1, 9), at(2, 3), -1}, {at(2, 3), at(1, 9), 1}, {at(2, 3), at(2, 9), -1}, {at(2, 9), at(2, 3), 1}, {at(2, 9), at(2, 9), 0}, {at(-2, 0), at(-3, 5), 1}, {at(0, -2), at(0, -3), 1},
		{pt(2, 4, 3, 9), pt(1, 2, 1, 3), 0}, {pt(2, 4, 3, 9), pt(1, 2, 1, 4), 1}, {pt(5, 0, 3, 0), api.Pt{}, 0}, {pt(5, 0, 3, 1), api.Pt{}, 1}, {pt(1, 9, 5, 0), pt(7, 0, 1, 9), 1}, {pt(-1, 9, 5, 0), pt(7, 0, -1, 9), -1},
	} {
		if got := vec.Cmp(x.a, x.b); got != x.want || vec.Same(x.a, x.b) != (x.want == 0) {
			t.Error(x.a, x.b, got)
		}
	}
	for _, a := range points() {
		for _, b := range points() {
			ax, ay := values(a)
			bx, by := values(b)
			want := ax.Cmp(bx)
			if want == 0 {
				want = ay.Cmp(by)
			}
			if got := vec.Cmp(a, b); got != want || vec.Same(a, b) != (want == 0) {
				t.Fatal(a, b, got, want)
			}
		}
	}
}

func TestCmpOrders(t *testing.T) {
	l := few()
	slices.SortFunc(l, vec.Cmp)
	for i := range l[1:] {
		ax, ay := values(l[i])
		bx, by := values(l[i+1])
		if c := ax.Cmp(bx); c > 0 || c == 0 && ay.Cmp(by) > 0 {
			t.Error(l[i], l[i+1])
		}
	}
}

// P8.4

func TestLawsOfCross(t *testing.T) {
	for _, a := range few() {
		if got := vec.Cross(a, a); !equal(got, rat.Of(0)) {
			t.Error(a, got)
		}
		for _, b := range few() {
			if !equal(vec.Cross(b, a), rat.Neg(vec.Cross(a, b))) {
				t.Error("turned about", a, b)
			}
			for _, c := range few() {
				if !equal(vec.Cross(a, vec.Add(b, c)), rat.Add(vec.Cross(a, b), vec.Cross(a, c))) {
					t.Error("sums", a, b, c)
				}
			}
			for _, r := range numbers() {
				want := rat.Mul(r, vec.Cross(a, b))
				if !equal(vec.Cross(vec.Scale(a, r), b), want) || !equal(vec.Cross(a, vec.Scale(b, r)), want) {
					t.Error("factors", a, b, r)
				}
			}
		}
	}
}

func TestAtOfNoughtAndOne(t *testing.T) {
	for _, a := range points() {
		for _, b := range points() {
			ends := vec.Norm(a, b)
			if !equalPts(vec.At(a, b, of(0, 1)), ends[0]) || !equalPts(vec.At(a, b, of(1, 1)), ends[1]) || !equalPts(vec.At(a, b, of(7, 7)), ends[1]) {
				t.Fatal(a, b)
			}
		}
	}
}

func TestNoWayByAnotherPointIsShorter(t *testing.T) {
	for _, a := range few() {
		for _, b := range few() {
			direct := vec.Far(a, b)
			if !equal(direct, vec.Far(b, a)) || (rat.Sign(direct) == 0) != vec.Same(a, b) {
				t.Error(a, b, direct)
			}
			for _, c := range few() {
				if rat.Cmp(direct, rat.Add(vec.Far(a, c), vec.Far(c, b))) > 0 {
					t.Error(a, b, c)
				}
			}
			half := vec.At(a, b, of(1, 2))
			if !equal(direct, rat.Add(vec.Far(a, half), vec.Far(half, b))) {
				t.Error(a, b, half)
			}
		}
	}
}

// R1, R3, R4

// calls are all calls that take points; each answers what it tells as points.
func calls() map[string]func(a, b api.Pt) []api.Pt {
	return map[string]func(a, b api.Pt) []api.Pt{
		"Norm":  func(a, b api.Pt) []api.Pt { return vec.Norm(a, b, a) },
		"Of":    func(a, b api.Pt) []api.Pt { return []api.Pt{vec.Of(3, -3), vec.Of(3, 0)} },
		"Add":   func(a, b api.Pt) []api.Pt { return []api.Pt{vec.Add(a, b)} },
		"Sub":   func(a, b api.Pt) []api.Pt { return []api.Pt{vec.Sub(a, b)} },
		"Neg":   func(a, b api.Pt) []api.Pt { return []api.Pt{vec.Neg(a)} },
		"Scale": func(a, b api.Pt) []api.Pt { return []api.Pt{vec.Scale(a, b.X)} },
		"Cross": func(a, b api.Pt) []api.Pt { return []api.Pt{{X: vec.Cross(a, b)}} },
		"Dot":   func(a, b api.Pt) []api.Pt { return []api.Pt{{X: vec.Dot(a, b)}} },
		"At":    func(a, b api.Pt) []api.Pt { return []api.Pt{vec.At(a, b, a.Y)} },
		"At 0":  func(a, b api.Pt) []api.Pt { return []api.Pt{vec.At(a, b, rat.Of(0))} },
		"Cmp":   func(a, b api.Pt) []api.Pt { return []api.Pt{at(vec.Cmp(a, b), 0)} },
		"Same":  func(a, b api.Pt) []api.Pt { return []api.Pt{truth(vec.Same(a, b))} },
		"Far":   func(a, b api.Pt) []api.Pt { return []api.Pt{{X: vec.Far(a, b)}} },
	}
}

func truth(ok bool) api.Pt {
	if ok {
		return at(1, 0)
	}
	return at(0, 0)
}

func sameList(x, y []api.Pt) bool { return slices.EqualFunc(x, y, equalPts) }

func copied(l []api.Pt) []api.Pt {
	all := make([]api.Pt, len(l))
	for i, p := range l {
		all[i] = api.Pt{X: copiedRat(p.X), Y: copiedRat(p.Y)}
	}
	return all
}

func copiedRat(r api.Rat) api.Rat {
	return api.Rat{Num: api.Int{Neg: r.Num.Neg, Abs: slices.Clone(r.Num.Abs)}, Den: slices.Clone(r.Den)}
}

// limbs are all limbs of what is told, with the room behind them.
func limbs(l []api.Pt) []api.Nat {
	var all []api.Nat
	for _, p := range l {
		for _, r := range []api.Rat{p.X, p.Y} {
			all = append(all, r.Num.Abs[:cap(r.Num.Abs)], r.Den[:cap(r.Den)])
		}
	}
	return all
}

// roomy is a point whose limbs are pieces of longer lists, so that what is written behind them shows.
func roomy(p api.Pt) (part, whole api.Pt) {
	part.X, whole.X = roomyRat(p.X)
	part.Y, whole.Y = roomyRat(p.Y)
	return part, whole
}

func roomyRat(r api.Rat) (part, whole api.Rat) {
	whole = api.Rat{Num: api.Int{Abs: append(slices.Clone(r.Num.Abs), 11, 22)}, Den: append(slices.Clone(r.Den), 33, 44)}
	part = api.Rat{Num: api.Int{Neg: r.Num.Neg, Abs: whole.Num.Abs[:len(r.Num.Abs)]}, Den: whole.Den[:len(r.Den)]}
	return part, whole
}

func TestWhatIsHandedInStays(t *testing.T) {
	for name, call := range calls() {
		for _, x := range points() {
			for _, y := range points() {
				a, wholeA := roomy(x)
				b, wholeB := roomy(y)
				l := []api.Pt{wholeA, wholeB}
				kept := copied(l)
				got := call(a, b)
				want := copied(got)
				if !sameList(l, kept) {
					t.Fatal(name, "changed", x, y)
				}
				for _, room := range limbs(l) {
					clear(room)
				}
				if !sameList(got, want) {
					t.Fatal(name, "answers memory that was handed in", x, y)
				}
			}
		}
	}
}

func TestAnswersAreNew(t *testing.T) {
	for name, call := range calls() {
		for _, a := range few() {
			for _, b := range few() {
				want, two := copied(call(a, b)), call(a, b)
				for i := range limbs(two) {
					one := call(a, b)
					room := limbs(one)
					kept := slices.Clone(room[i])
					for j := range room[i] {
						room[i][j] = 77
					}
					other := limbs(one)
					copy(other[i], kept)
					if !sameList(one, want) || !sameList(two, want) {
						t.Fatal(name, "answers memory twice", a, b)
					}
				}
				for i, room := range limbs(two) {
					for j, others := range limbs(two) {
						if i != j && len(room) > 0 && len(others) > 0 && &room[len(room)-1] == &others[len(others)-1] {
							t.Fatal(name, "answers two that share memory", a, b)
						}
					}
				}
			}
		}
	}
}

func TestListsStay(t *testing.T) {
	l := points()
	kept := copied(l)
	for n := range l {
		got := vec.Norm(l[:n]...)
		if len(got) != n {
			t.Fatal(n, len(got))
		}
		clear(got[:cap(got)])
	}
	if !sameList(l, kept) {
		t.Error(l)
	}
}

// It is enough that they end, with a point as it is told.
func TestLongOnes(t *testing.T) {
	long := func(n int, seed uint64) api.Nat {
		a := make(api.Nat, n)
		for i := range a {
			seed = seed*6364136223846793005 + 1442695040888963407
			a[i] = uint32(seed >> 32)
		}
		a[n-1] |= 1
		return a
	}
	a := api.Pt{X: api.Rat{Num: api.Int{Abs: long(300, 1)}, Den: long(200, 2)}, Y: of(1, 3)}
	b := api.Pt{X: of(-5, 7), Y: api.Rat{Num: api.Int{Neg: true, Abs: long(200, 3)}, Den: long(400, 4)}}
	ax, ay := values(a)
	bx, by := values(b)
	wantPt(t, vec.Add(a, b), plus(ax, bx), plus(ay, by))
	wantRat(t, vec.Cross(a, b), less(times(ax, by), times(ay, bx)))
	dx, dy := less(ax, bx), less(ay, by)
	wantRat(t, vec.Far(a, b), plus(dx.Abs(dx), dy.Abs(dy)))
	if vec.Cmp(a, b) != 1 || vec.Cmp(b, a) != -1 || vec.Cmp(a, a) != 0 || vec.Same(a, b) {
		t.Error("order")
	}
}
