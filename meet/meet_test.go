package meet_test

import (
	"math/big"
	"slices"
	"testing"

	"strait/api"
	"strait/meet"
	"strait/vec"
)

const full = 1<<32 - 1

func above(limbs ...uint32) api.Int { return api.Int{Abs: limbs} }

func below(limbs ...uint32) api.Int { return api.Int{Neg: true, Abs: limbs} }

// by is a rational as it stands there, normalised or not.
func by(num api.Int, den ...uint32) api.Rat { return api.Rat{Num: num, Den: den} }

// of is a rational of little numbers as it stands there; nought has no limbs.
func of(n int, d uint32) api.Rat {
	switch {
	case n < 0:
		return by(below(uint32(-n)), d)
	case n == 0:
		return by(above(), d)
	}
	return by(above(uint32(n)), d)
}

// pt is a point of fractions as they stand there.
func pt(xn int, xd uint32, yn int, yd uint32) api.Pt { return api.Pt{X: of(xn, xd), Y: of(yn, yd)} }

// at is a point of whole numbers.
func at(x, y int) api.Pt { return pt(x, 1, y, 1) }

// ring is a polygon of whole numbers, of x and y by turns.
func ring(l ...int) []api.Pt {
	var told []api.Pt
	for ; len(l) > 0; l = l[2:] {
		told = append(told, at(l[0], l[1]))
	}
	return told
}

// grid are points of which many are on one line, some of them not normalised.
func grid() []api.Pt {
	l := ring(0, 0, 1, 0, 2, 0, 0, 1, 1, 1, 2, 1, 1, 2, 2, 2)
	return append(l, pt(1, 2, 2, 4), pt(5, 0, 4, 2), pt(-1, 1, -6, 4))
}

// odd are points whose numbers are noughts of all forms, long ones, or not normalised.
func odd() []api.Pt {
	return []api.Pt{
		{}, pt(0, 5, -1, 1), pt(5, 0, 2, 3), pt(-6, 4, -35, 60), pt(1, 3, 1, 3), pt(-4, 12, -3, 9),
		{X: by(above(full), full-1), Y: by(below(1), 0, 1)}, {X: by(below(0, 1), 3), Y: by(above(5, 9), 9, 5, 0)}, {X: by(below(0, 0), 6, 0), Y: by(above(7))}, {X: by(below(0, 2), 3), Y: by(above(10, 18), 9, 5, 0)},
	}
}

// fours looks at any four of the points of the grid, and of the odd ones.
func fours(look func(a, b, c, d api.Pt)) {
	for _, l := range [][]api.Pt{grid(), odd()} {
		for _, a := range l {
			for _, b := range l {
				for _, c := range l {
					for _, d := range l {
						look(a, b, c, d)
					}
				}
			}
		}
	}
}

// polygons are of all kinds: of no corner, one, two, alike ones, going about either way, across themselves, not normalised.
func polygons() [][]api.Pt {
	return [][]api.Pt{
		nil, {}, {pt(2, 2, 5, 0)}, ring(1, 1), ring(2, 1), ring(0, 0, 3, 3), ring(5, 5, 5, 5, 5, 5), ring(3, 0, 0, 0, 3, 0),
		ring(0, 0, 2, 0, 2, 2, 0, 2), ring(0, 2, 2, 2, 2, 0, 0, 0), ring(1, 1, 3, 1, 3, 3, 1, 3), ring(2, 0, 4, 0, 4, 2, 2, 2), ring(2, -1, 4, 3, 2, 3), ring(0, 0, 4, 4, 4, 0, 0, 4), ring(0, 0, 1, 0, 2, 0, 1, 4), ring(10, 10, 12, 10, 11, 13),
		{pt(1, 3, -3, 2), pt(5, 2, 1, 7), pt(1, 1, 14, 4)}, {pt(0, 1, 5, 0), pt(4, 2, 0, 9), pt(6, 6, 22, 11)}, slices.Concat(odd(), ring(1, 1, 1, 1, 0, 2)),
	}
}

func natValue(a api.Nat) *big.Int {
	v := new(big.Int)
	for _, limb := range slices.Backward(a) {
		v.Lsh(v, 32).Add(v, big.NewInt(int64(limb)))
	}
	return v
}

// natOf is natValue's other way about.
func natOf(v *big.Int) api.Nat {
	var a api.Nat
	for v := new(big.Int).Set(v); v.Sign() > 0; v.Rsh(v, 32) {
		a = append(a, uint32(new(big.Int).And(v, big.NewInt(full)).Uint64()))
	}
	return a
}

// value is what the words say that a rational counts as.
func value(r api.Rat) *big.Rat {
	num, den := natValue(r.Num.Abs), natValue(r.Den)
	if den.Sign() == 0 {
		return new(big.Rat)
	}
	if r.Num.Neg {
		num.Neg(num)
	}
	return new(big.Rat).SetFrac(num, den)
}

// toldRat is a number as it is told.
func toldRat(v *big.Rat) api.Rat {
	abs := new(big.Int).Abs(v.Num())
	return api.Rat{Num: api.Int{Neg: v.Sign() < 0, Abs: natOf(abs)}, Den: natOf(v.Denom())}
}

func plus(a, b *big.Rat) *big.Rat { return new(big.Rat).Add(a, b) }

func less(a, b *big.Rat) *big.Rat { return new(big.Rat).Sub(a, b) }

func times(a, b *big.Rat) *big.Rat { return new(big.Rat).Mul(a, b) }

// plain is a point by another library's numbers.
type plain struct{ x, y *big.Rat }

func plainOf(p api.Pt) plain { return plain{value(p.X), value(p.Y)} }

func (p plain) told() api.Pt { return api.Pt{X: toldRat(p.x), Y: toldRat(p.y)} }

func (p plain) from(o plain) plain { return plain{less(p.x, o.x), less(p.y, o.y)} }

func (p plain) cross(o plain) *big.Rat { return less(times(p.x, o.y), times(p.y, o.x)) }

// on, by the words: on the line, and an end or between both.
func (p plain) on(a, b plain) bool {
	v, w := a.from(p), b.from(p)
	return v.cross(w).Sign() == 0 && plus(times(v.x, w.x), times(v.y, w.y)).Sign() <= 0
}

func order(p, o plain) int {
	if c := p.x.Cmp(o.x); c != 0 {
		return c
	}
	return p.y.Cmp(o.y)
}

// crossing is where lines that aren't parallel have a point in common, and how far along both ways that is.
func crossing(a, b, c, d plain) (p plain, t, u *big.Rat, ok bool) {
	v, w := b.from(a), d.from(c)
	den := v.cross(w)
	if den.Sign() == 0 {
		return plain{}, nil, nil, false
	}
	t = new(big.Rat).Quo(c.from(a).cross(w), den)
	u = new(big.Rat).Quo(c.from(a).cross(v), den)
	return plain{plus(a.x, times(t, v.x)), plus(a.y, times(t, v.y))}, t, u, true
}

func within(t *big.Rat) bool { return t.Sign() >= 0 && t.Cmp(big.NewRat(1, 1)) <= 0 }

// common are the ends of what two segments have in common: of their own ends those on both, or where they cross.
func common(a, b, c, d plain) []plain {
	var l []plain
	for _, p := range []plain{a, b} {
		if p.on(c, d) {
			l = append(l, p)
		}
	}
	for _, p := range []plain{c, d} {
		if p.on(a, b) {
			l = append(l, p)
		}
	}
	if p, t, u, ok := crossing(a, b, c, d); ok && within(t) && within(u) {
		l = append(l, p)
	}
	return listed(l)
}

func listed(l []plain) []plain {
	slices.SortFunc(l, order)
	return slices.CompactFunc(l, func(p, o plain) bool { return order(p, o) == 0 })
}

func wantMeeting(a, b, c, d api.Pt) api.Meeting {
	l := common(plainOf(a), plainOf(b), plainOf(c), plainOf(d))
	switch len(l) {
	case 0:
		return api.Meeting{Kind: api.MtNone, A: vec.Of(0, 0), B: vec.Of(0, 0)}
	case 1:
		return api.Meeting{Kind: api.MtPoint, A: l[0].told(), B: l[0].told()}
	}
	return api.Meeting{Kind: api.MtOverlap, A: l[0].told(), B: l[len(l)-1].told()}
}

func wantAll(p, q []api.Pt) []api.Pt {
	var l []plain
	for i := range p {
		for j := range q {
			l = append(l, common(plainOf(p[i]), plainOf(p[(i+1)%len(p)]), plainOf(q[j]), plainOf(q[(j+1)%len(q)]))...)
		}
	}
	var told []api.Pt
	for _, x := range listed(l) {
		told = append(told, x.told())
	}
	return told
}

// equal: are they told alike, limb by limb?
func equal(a, b api.Rat) bool {
	return a.Num.Neg == b.Num.Neg && slices.Equal(a.Num.Abs, b.Num.Abs) && slices.Equal(a.Den, b.Den)
}

func equalPts(a, b api.Pt) bool { return equal(a.X, b.X) && equal(a.Y, b.Y) }

func equalMeetings(a, b api.Meeting) bool {
	return a.Kind == b.Kind && equalPts(a.A, b.A) && equalPts(a.B, b.B)
}

func sameList(x, y []api.Pt) bool { return slices.EqualFunc(x, y, equalPts) }

// P10.1

func TestSegs(t *testing.T) {
	o := at(0, 0)
	for i, x := range []struct {
		a, b, c, d api.Pt
		kind       int8
		from, to   api.Pt
	}{
		{o, at(2, 2), at(0, 2), at(2, 0), api.MtPoint, at(1, 1), at(1, 1)}, {o, at(3, 0), at(1, 0), at(5, 0), api.MtOverlap, at(1, 0), at(3, 0)}, {o, at(1, 0), at(2, 0), at(3, 0), api.MtNone, o, o}, // the document's examples
		{o, at(1, 0), at(1, 0), at(3, 0), api.MtPoint, at(1, 0), at(1, 0)}, {o, at(2, 0), at(2, 0), at(2, 3), api.MtPoint, at(2, 0), at(2, 0)}, {o, at(4, 0), at(2, 0), at(2, 3), api.MtPoint, at(2, 0), at(2, 0)}, {o, at(4, 0), at(2, 1), at(2, 3), api.MtNone, o, o}, {o, at(4, 0), at(5, -1), at(5, 1), api.MtNone, o, o},
		{o, at(5, 5), at(4, 4), at(1, 1), api.MtOverlap, at(1, 1), at(4, 4)}, {at(1, 1), at(4, 4), at(5, 5), o, api.MtOverlap, at(1, 1), at(4, 4)}, {o, at(5, 5), at(5, 5), o, api.MtOverlap, o, at(5, 5)}, {at(3, 5), at(3, 1), at(3, 4), at(3, 7), api.MtOverlap, at(3, 4), at(3, 5)}, {at(3, 5), at(3, 1), at(3, 6), at(3, 7), api.MtNone, o, o}, {at(0, 5), at(5, 0), at(2, 3), at(9, -4), api.MtOverlap, at(2, 3), at(5, 0)},
		{o, at(5, 0), at(1, 1), at(4, 1), api.MtNone, o, o}, {o, at(5, 5), at(1, 2), at(4, 5), api.MtNone, o, o},
		{at(3, 3), at(3, 3), at(3, 3), at(3, 3), api.MtPoint, at(3, 3), at(3, 3)}, {at(3, 3), at(3, 3), at(3, 4), at(3, 4), api.MtNone, o, o}, {at(3, 3), at(3, 3), o, at(5, 5), api.MtPoint, at(3, 3), at(3, 3)}, {o, at(5, 5), at(5, 5), at(5, 5), api.MtPoint, at(5, 5), at(5, 5)}, {o, at(5, 5), at(6, 6), at(6, 6), api.MtNone, o, o}, {o, at(5, 5), at(2, 3), at(2, 3), api.MtNone, o, o},
		{api.Pt{}, pt(6, 3, 2, 2), pt(2, 1, 5, 0), pt(7, 0, 3, 3), api.MtPoint, pt(1, 1, 1, 2), pt(1, 1, 1, 2)}, {pt(1, 3, 1, 7), pt(1, 2, 1, 5), pt(1, 3, 1, 5), pt(1, 2, 1, 7), api.MtPoint, pt(5, 12, 6, 35), pt(5, 12, 6, 35)}, {pt(2, 4, 1, 0), pt(9, 3, 0, 4), pt(5, 0, 9, 0), pt(4, 4, 2, 0), api.MtOverlap, pt(1, 2, 0, 1), at(1, 0)},
	} {
		if got := meet.Segs(x.a, x.b, x.c, x.d); !equalMeetings(got, api.Meeting{Kind: x.kind, A: x.from, B: x.to}) {
			t.Error(i, got)
		}
		if got := meet.Meets(x.a, x.b, x.c, x.d); got != (x.kind != api.MtNone) {
			t.Error(i, got)
		}
	}
}

func TestSegsOfAnyFour(t *testing.T) {
	fours(func(a, b, c, d api.Pt) {
		want := wantMeeting(a, b, c, d)
		if got := meet.Segs(a, b, c, d); !equalMeetings(got, want) {
			t.Fatal(a, b, c, d, "got", got, "want", want)
		}
		if got := meet.Meets(a, b, c, d); got != (want.Kind != api.MtNone) {
			t.Fatal(a, b, c, d, got)
		}
	})
}

// An end is on the other segment, or off it by as little as that: they meet, or don't.
func TestSegsAHairApart(t *testing.T) {
	long := new(big.Int).Lsh(big.NewInt(1), 200)
	hair := new(big.Rat).SetFrac(big.NewInt(1), long)
	for _, x := range []struct {
		by   *big.Rat
		kind int8
	}{{hair, api.MtNone}, {new(big.Rat), api.MtPoint}, {new(big.Rat).Neg(hair), api.MtPoint}} {
		end := plain{big.NewRat(1, 3), plus(big.NewRat(2, 3), x.by)}.told()
		if got := meet.Segs(at(0, 0), at(1, 2), at(0, 5), end); got.Kind != x.kind {
			t.Error("across", got)
		}
		if got := meet.Segs(at(0, 0), at(1, 2), end, pt(1, 3, 5, 1)); got.Kind != x.kind {
			t.Error("upright", got)
		}
		near := plain{plus(big.NewRat(1, 3), x.by), new(big.Rat)}.told()
		kind := x.kind
		if x.by.Sign() < 0 {
			kind = api.MtOverlap
		}
		if got := meet.Segs(at(0, 0), pt(1, 3, 0, 1), near, at(2, 0)); got.Kind != kind {
			t.Error("along", got)
		}
	}
}

// P10.2

func TestHeight(t *testing.T) {
	for i, x := range []struct {
		a, b api.Pt
		x, y api.Rat
		ok   bool
	}{
		{at(0, 0), at(2, 4), of(1, 1), of(2, 1), true}, {at(0, 0), at(2, 4), of(0, 1), of(0, 1), true}, {at(0, 0), at(2, 4), of(2, 1), of(4, 1), true}, {at(0, 0), at(2, 4), of(5, 1), of(10, 1), true}, {at(0, 0), at(2, 4), of(-3, 2), of(-3, 1), true}, {at(2, 4), at(0, 0), of(-3, 2), of(-3, 1), true},
		{at(1, 5), at(7, 5), of(100, 1), of(5, 1), true}, {at(0, 1), at(3, 2), of(1, 1), of(4, 3), true}, {at(0, 1), at(3, 2), of(6, 0), of(1, 1), true}, {pt(5, 0, 2, 2), pt(9, 3, 8, 4), of(2, 2), of(4, 3), true},
		{at(1, 0), at(1, 5), of(1, 1), of(0, 1), false}, {at(1, 3), at(1, 5), of(2, 1), of(0, 1), false}, {at(1, 3), at(1, 3), of(1, 1), of(0, 1), false}, {pt(2, 4, 3, 1), pt(3, 6, 9, 1), of(1, 2), of(0, 1), false}, {pt(5, 0, 3, 1), at(0, 9), of(0, 1), of(0, 1), false}, {api.Pt{}, api.Pt{}, api.Rat{}, of(0, 1), false},
	} {
		if y, ok := meet.Height(x.a, x.b, x.x); !equal(y, x.y) || ok != x.ok {
			t.Error(i, y, ok)
		}
	}
}

func TestHeightOfAnyTwo(t *testing.T) {
	for _, l := range [][]api.Pt{grid(), odd()} {
		for _, a := range l {
			for _, b := range l {
				for _, x := range odd() {
					y, ok := meet.Height(a, b, x.X)
					if p, q := plainOf(a), plainOf(b); p.x.Cmp(q.x) == 0 {
						if ok || !equal(y, of(0, 1)) {
							t.Fatal(a, b, x.X, y, ok)
						}
						continue
					}
					p := plain{value(x.X), value(y)}
					if !ok || !equal(y, toldRat(p.y)) || p.from(plainOf(a)).cross(p.from(plainOf(b))).Sign() != 0 {
						t.Fatal(a, b, x.X, y, ok)
					}
				}
			}
		}
	}
}

func TestLines(t *testing.T) {
	for i, x := range []struct {
		a, b, c, d, p api.Pt
		ok            bool
	}{
		{at(0, 0), at(2, 2), at(0, 2), at(2, 0), at(1, 1), true}, {at(0, 0), at(1, 1), at(5, 0), at(4, 1), pt(5, 2, 5, 2), true}, {at(0, 0), at(1, 0), at(7, 3), at(7, 5), at(7, 0), true}, {at(-1, -1), at(-2, -2), at(3, 0), at(3, 1), at(3, 3), true}, {at(0, 0), at(3, 1), at(0, 1), at(1, 0), pt(3, 4, 1, 4), true},
		{at(0, 0), at(1, 0), at(0, 0), at(0, 1), at(0, 0), true}, {pt(5, 0, 2, 2), pt(2, 2, 3, 3), pt(6, 3, 5, 0), pt(4, 2, 9, 9), at(2, 1), true},
		{at(0, 0), at(1, 0), at(0, 1), at(1, 1), at(0, 0), false}, {at(3, 0), at(4, 0), at(3, 0), at(4, 0), at(0, 0), false}, {at(3, 3), at(4, 4), at(6, 6), at(5, 5), at(0, 0), false}, {at(3, 3), at(3, 3), at(0, 3), at(5, 3), at(0, 0), false}, {at(0, 3), at(5, 3), at(3, 3), at(3, 3), at(0, 0), false}, {at(3, 3), at(3, 3), at(3, 3), at(3, 3), at(0, 0), false}, {pt(2, 4, 7, 1), pt(1, 2, 14, 2), at(1, 5), at(2, 9), at(0, 0), false},
	} {
		if p, ok := meet.Lines(x.a, x.b, x.c, x.d); !equalPts(p, x.p) || ok != x.ok {
			t.Error(i, p, ok)
		}
	}
	fours(func(a, b, c, d api.Pt) {
		want, _, _, ok := crossing(plainOf(a), plainOf(b), plainOf(c), plainOf(d))
		if !ok {
			want = plainOf(api.Pt{})
		}
		if p, yes := meet.Lines(a, b, c, d); yes != ok || !equalPts(p, want.told()) {
			t.Fatal(a, b, c, d, p, yes)
		}
	})
}

// P10.3

func TestAll(t *testing.T) {
	square := ring(0, 0, 2, 0, 2, 2, 0, 2)
	for i, x := range []struct{ p, q, want []api.Pt }{
		{nil, nil, nil}, {nil, square, nil}, {square, nil, nil}, {square, []api.Pt{}, nil}, {square, ring(5, 5, 6, 5, 6, 6), nil}, {square, []api.Pt{pt(1, 2, 1, 2), at(1, 1), pt(1, 2, 1, 1)}, nil},
		{square, ring(1, 1, 3, 1, 3, 3, 1, 3), ring(1, 2, 2, 1)}, {square, ring(2, 2, 4, 2, 4, 4), ring(2, 2)}, {square, ring(2, 0, 4, 0, 4, 2, 2, 2), ring(2, 0, 2, 2)}, {square, square, ring(0, 0, 0, 2, 2, 0, 2, 2)}, {square, ring(2, -1, 4, -1, 2, 1), ring(2, 0, 2, 1)},
		{square, ring(1, 0, 5, 0, 1, 1), []api.Pt{at(1, 0), at(2, 0), pt(2, 1, 3, 4)}}, {square, ring(-1, 1, 3, 1), ring(0, 1, 2, 1)}, {ring(-1, 1, 3, 1), square, ring(0, 1, 2, 1)}, {square, ring(1, 0), ring(1, 0)}, {square, ring(1, 1), nil}, {ring(1, 0), ring(1, 0), ring(1, 0)}, {ring(1, 0), ring(1, 1), nil}, {ring(2, 2, 2, 2), square, ring(2, 2)},
		{ring(0, 0, 3, 0), ring(1, 0, 5, 0), ring(1, 0, 3, 0)}, {square, []api.Pt{pt(5, 0, 2, 2), pt(4, 2, 3, 3), pt(1, 1, 10, 2)}, []api.Pt{at(0, 1), pt(1, 4, 2, 1), pt(7, 4, 2, 1), at(2, 1)}},
	} {
		if got := meet.All(x.p, x.q); !sameList(got, x.want) {
			t.Error(i, got)
		}
	}
	for i, p := range polygons() {
		for j, q := range polygons() {
			if got, want := meet.All(p, q), wantAll(p, q); !sameList(got, want) {
				t.Error(i, j, "got", got, "want", want)
			}
		}
	}
}

// Of many edges each has to be looked at, wherever it begins.
func TestAllOfLongOnes(t *testing.T) {
	var saw, comb, want []api.Pt
	for i := range 60 {
		saw = append(saw, at(2*i, i%2*2))
		comb = append(comb, at((i*7)%60*2+1, 5), at((i*7)%60*2+1, -5))
		if i < 59 {
			want = append(want, at(2*i+1, 1))
		}
	}
	got := meet.All(saw, comb)
	if missed := slices.ContainsFunc(want, func(p api.Pt) bool { return !slices.ContainsFunc(got, func(o api.Pt) bool { return equalPts(p, o) }) }); missed {
		t.Error(got)
	}
	if !sameList(got, wantAll(saw, comb)) || !sameList(got, meet.All(comb, saw)) {
		t.Error(got)
	}
}

// P10.4

func TestSegsTurnedAbout(t *testing.T) {
	fours(func(a, b, c, d api.Pt) {
		m := meet.Segs(a, b, c, d)
		for i, o := range []api.Meeting{meet.Segs(b, a, c, d), meet.Segs(a, b, d, c), meet.Segs(b, a, d, c), meet.Segs(c, d, a, b), meet.Segs(d, c, b, a)} {
			if !equalMeetings(m, o) {
				t.Fatal(i, a, b, c, d, m, o)
			}
		}
		if ok := meet.Meets(a, b, c, d); meet.Meets(b, a, c, d) != ok || meet.Meets(a, b, d, c) != ok || meet.Meets(d, c, a, b) != ok {
			t.Fatal(a, b, c, d)
		}
	})
}

func TestWhatIsToldLiesOnBoth(t *testing.T) {
	fours(func(a, b, c, d api.Pt) {
		m := meet.Segs(a, b, c, d)
		if m.Kind == api.MtNone {
			return
		}
		for _, p := range []plain{plainOf(m.A), plainOf(m.B)} {
			if !p.on(plainOf(a), plainOf(b)) || !p.on(plainOf(c), plainOf(d)) {
				t.Fatal(a, b, c, d, m)
			}
		}
		if (vec.Cmp(m.A, m.B) < 0) != (m.Kind == api.MtOverlap) || vec.Cmp(m.A, m.B) > 0 {
			t.Fatal("order", a, b, c, d, m)
		}
	})
}

func TestLinesTurnedAbout(t *testing.T) {
	fours(func(a, b, c, d api.Pt) {
		p, ok := meet.Lines(a, b, c, d)
		for i, l := range [][4]api.Pt{{b, a, c, d}, {a, b, d, c}, {c, d, a, b}, {d, c, b, a}} {
			if o, yes := meet.Lines(l[0], l[1], l[2], l[3]); yes != ok || !equalPts(o, p) {
				t.Fatal(i, a, b, c, d, o, yes)
			}
		}
		y, ok := meet.Height(a, b, c.X)
		if o, yes := meet.Height(b, a, c.X); yes != ok || !equal(o, y) {
			t.Fatal("height", a, b, c.X, o, yes)
		}
	})
}

func TestAllTurnedAbout(t *testing.T) {
	about := func(l []api.Pt) []api.Pt {
		l = slices.Clone(l)
		slices.Reverse(l)
		return l
	}
	for i, p := range polygons() {
		for j, q := range polygons() {
			l := meet.All(p, q)
			if !sameList(l, meet.All(q, p)) || !sameList(l, meet.All(about(p), q)) || !sameList(l, meet.All(about(q), about(p))) {
				t.Error(i, j)
			}
			if n := len(q) / 2; !sameList(l, meet.All(p, slices.Concat(q[n:], q[:n]))) {
				t.Error("begun elsewhere", i, j)
			}
		}
	}
}

// R1, R3, R4

// calls are all calls that take points; each answers what it tells as points.
func calls() map[string]func(l []api.Pt) []api.Pt {
	return map[string]func(l []api.Pt) []api.Pt{
		"Segs": func(l []api.Pt) []api.Pt {
			m := meet.Segs(l[0], l[1], l[2], l[3])
			return []api.Pt{m.A, m.B, at(int(m.Kind), 0)}
		},
		"Meets": func(l []api.Pt) []api.Pt { return []api.Pt{truth(meet.Meets(l[0], l[1], l[2], l[3]))} },
		"Height": func(l []api.Pt) []api.Pt {
			y, ok := meet.Height(l[0], l[1], l[2].X)
			return []api.Pt{{X: y}, truth(ok)}
		},
		"Lines": func(l []api.Pt) []api.Pt {
			p, ok := meet.Lines(l[0], l[1], l[2], l[3])
			return []api.Pt{p, truth(ok)}
		},
		"All":           func(l []api.Pt) []api.Pt { return meet.All(l[:2], l[2:]) },
		"All of itself": func(l []api.Pt) []api.Pt { return meet.All(l, l) },
	}
}

func truth(ok bool) api.Pt {
	if ok {
		return at(1, 0)
	}
	return at(0, 0)
}

// sets are fours that meet, and don't, in all ways.
func sets() [][]api.Pt {
	o := odd()
	return [][]api.Pt{
		ring(0, 0, 2, 2, 0, 2, 2, 0), ring(0, 0, 3, 0, 1, 0, 5, 0), ring(3, 3, 0, 0, 4, 4, 1, 1), ring(0, 0, 1, 0, 2, 0, 3, 0), ring(1, 1, 1, 1, 1, 1, 1, 1), ring(1, 1, 4, 5, 4, 5, 7, 0), ring(1, 1, 1, 5, 1, 2, 1, 9),
		o[:4], o[3:7], o[6:], {o[7], o[0], o[9], o[1]}, {o[0], o[7], o[9], o[0]}, {pt(2, 4, 5, 0), pt(6, 3, 9, 3), pt(4, 2, 3, 0), pt(1, 1, 9, 2)},
	}
}

func copied(l []api.Pt) []api.Pt {
	all := make([]api.Pt, len(l))
	for i, p := range l {
		all[i] = api.Pt{X: copiedRat(p.X), Y: copiedRat(p.Y)}
	}
	return all
}

func copiedRat(r api.Rat) api.Rat {
	return api.Rat{Num: api.Int{Neg: r.Num.Neg, Abs: slices.Clone(r.Num.Abs)}, Den: slices.Clone(r.Den)}
}

// limbs are all limbs of what is told, with the room behind them.
func limbs(l []api.Pt) []api.Nat {
	var all []api.Nat
	for _, p := range l {
		for _, r := range []api.Rat{p.X, p.Y} {
			all = append(all, r.Num.Abs[:cap(r.Num.Abs)], r.Den[:cap(r.Den)])
		}
	}
	return all
}

// roomy are points whose limbs, as themselves, are pieces of longer lists, so that what is written behind them shows.
func roomy(l []api.Pt) (part, whole []api.Pt) {
	whole = make([]api.Pt, len(l)+2)
	for i, p := range l {
		part = append(part, api.Pt{})
		part[i].X, whole[i].X = roomyRat(p.X)
		part[i].Y, whole[i].Y = roomyRat(p.Y)
	}
	kept := slices.Concat(part, []api.Pt{at(7, 7), at(8, 8)})
	whole[len(l)], whole[len(l)+1] = kept[len(l)], kept[len(l)+1]
	return kept[:len(l)], whole
}

func roomyRat(r api.Rat) (part, whole api.Rat) {
	whole = api.Rat{Num: api.Int{Abs: append(slices.Clone(r.Num.Abs), 11, 22)}, Den: append(slices.Clone(r.Den), 33, 44)}
	part = api.Rat{Num: api.Int{Neg: r.Num.Neg, Abs: whole.Num.Abs[:len(r.Num.Abs)]}, Den: whole.Den[:len(r.Den)]}
	return part, whole
}

func TestWhatIsHandedInStays(t *testing.T) {
	for name, call := range calls() {
		for i, x := range sets() {
			l, whole := roomy(x)
			kept := copied(whole)
			got := call(l)
			want := copied(got)
			if !sameList(whole, kept) || !sameList(l, x) || !sameList(l[:len(l)+2][len(l):], kept[len(l):]) {
				t.Fatal(name, "changed", i)
			}
			for _, room := range limbs(whole) {
				clear(room)
			}
			clear(l)
			if !sameList(got, want) || !sameList(want, call(x)) {
				t.Fatal(name, "answers memory that was handed in", i)
			}
		}
	}
}

func TestAnswersAreNew(t *testing.T) {
	for name, call := range calls() {
		for i, x := range sets() {
			want, two := copied(call(x)), call(x)
			one := call(x)
			for _, room := range limbs(one) {
				clear(room)
			}
			clear(one)
			if !sameList(two, want) || !sameList(call(x), want) {
				t.Fatal(name, "answers memory twice", i)
			}
			all := limbs(two)
			for j, room := range all {
				for _, others := range all[:j] {
					if len(room) > 0 && len(others) > 0 && &room[len(room)-1] == &others[len(others)-1] {
						t.Fatal(name, "answers two that share memory", i)
					}
				}
			}
		}
	}
}

// It is enough that they end, with what is told as the words say.
func TestLongOnes(t *testing.T) {
	long := func(n int, seed uint64) api.Nat {
		a := make(api.Nat, n)
		for i := range a {
			seed = seed*6364136223846793005 + 1442695040888963407
			a[i] = uint32(seed >> 32)
		}
		a[n-1] |= 1
		return a
	}
	a := api.Pt{X: api.Rat{Num: api.Int{Neg: true, Abs: long(100, 1)}, Den: long(60, 2)}, Y: of(1, 3)}
	b := api.Pt{X: api.Rat{Num: api.Int{Abs: long(100, 3)}, Den: long(60, 4)}, Y: of(7, 5)}
	c := api.Pt{X: of(-5, 7), Y: api.Rat{Num: api.Int{Neg: true, Abs: long(90, 5)}, Den: long(70, 6)}}
	d := api.Pt{X: of(5, 9), Y: api.Rat{Num: api.Int{Abs: long(90, 7)}, Den: long(70, 8)}}
	got, want := meet.Segs(a, b, c, d), wantMeeting(a, b, c, d)
	if !equalMeetings(got, want) || got.Kind != api.MtPoint {
		t.Error(got.Kind, want.Kind)
	}
	if l := meet.All([]api.Pt{a, b}, []api.Pt{c, d}); !sameList(l, []api.Pt{want.A}) {
		t.Error(len(l))
	}
}
