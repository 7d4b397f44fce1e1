// Package nat is layer 1: see shared/doc/01-nat.md.
package nat

import (
	"iter"

	"strait/api"
)

// spare is how many limbs more than the longest number a sum may have: no list has 2 to the power of 64 numbers.
const spare = 2

// step makes of two limbs of one place, and of what is carried to it, the limb that stays and what is carried on.
type step func(x, y, carry uint64) (limb uint32, carried uint64)

// Trim: P1.1.
func Trim(a api.Nat) api.Nat { return append(api.Nat(nil), cut(a)...) }

// Of: P1.1.
func Of(n uint64) api.Nat { return cut(api.Nat{uint32(n), uint32(n >> 32)}) }

// Small: P1.1.
func Small(a api.Nat) (n uint64, ok bool) {
	a = cut(a)
	if len(a) > 2 {
		return 0, false
	}
	return uint64(limbAt(a, 1))<<32 | uint64(limbAt(a, 0)), true
}

// Cmp: P1.2.
func Cmp(a, b api.Nat) int {
	order := 0
compare:
	for x, y := range downwards(a, b) {
		switch {
		case x < y:
			order = -1
			break compare
		case x > y:
			order = 1
			break compare
		}
	}
	return order
}

// Add: P1.3.
func Add(l ...api.Nat) api.Nat {
	// One sum takes up all numbers, so that many small ones beside a long one cost no more than their own limbs.
	sum := make(api.Nat, longest(l)+spare)
	for _, a := range l {
		put(sum, columns(sum, a, plus))
	}
	return cut(sum)
}

// Sub: P1.3.
func Sub(a, b api.Nat) (api.Nat, api.Errno) {
	if Cmp(a, b) < 0 {
		return nil, api.ErrLess
	}
	rest := Trim(a)
	put(rest, columns(rest, b, minus))
	return cut(rest), api.OK
}

// Least: P1.2.
func Least(l ...api.Nat) int {
	least := -1
	for i, a := range l {
		if least < 0 || Cmp(a, l[least]) < 0 {
			least = i
		}
	}
	return least
}

// cut is a without its last noughts, in a's own memory; its room ends with it, so that nobody can write behind it.
func cut(a api.Nat) api.Nat {
	n := len(a)
	for n > 0 && a[n-1] == 0 {
		n--
	}
	if n == 0 {
		return nil // nought is told in one way, whatever it comes from
	}
	return a[:n:n]
}

func longest(l []api.Nat) int {
	n := 0
	for _, a := range l {
		n = max(n, len(cut(a)))
	}
	return n
}

// limbAt is nought at the places that a doesn't have.
func limbAt(a api.Nat, i int) uint32 {
	if i < len(a) {
		return a[i]
	}
	return 0
}

// downwards gives the limbs of both numbers, from the highest place on, as that one settles their order.
func downwards(a, b api.Nat) iter.Seq2[uint32, uint32] {
	return func(yield func(uint32, uint32) bool) {
		for i := max(len(a), len(b)) - 1; i >= 0; i-- {
			if !yield(limbAt(a, i), limbAt(b, i)) {
				return
			}
		}
	}
}

// columns gives the places of a, with the limb that f makes there of both numbers and of what is carried; it ends ahead of the places that stay as they are. A place that has been given isn't looked at again: whoever ranges may write to it.
func columns(a, b api.Nat, f step) iter.Seq2[int, uint32] {
	return func(yield func(int, uint32) bool) {
		var limb uint32
		carry := uint64(0)
		for i := range a {
			if i >= len(b) && carry == 0 {
				return
			}
			limb, carry = f(uint64(a[i]), uint64(limbAt(b, i)), carry)
			if !yield(i, limb) {
				return
			}
		}
	}
}

func put(a api.Nat, limbs iter.Seq2[int, uint32]) {
	for i, limb := range limbs {
		a[i] = limb
	}
}

func plus(x, y, carry uint64) (limb uint32, carried uint64) {
	s := x + y + carry
	return uint32(s), s >> 32
}

// minus wraps round below nought: the highest bit then tells that one is borrowed from the next place.
func minus(x, y, borrow uint64) (limb uint32, carried uint64) {
	d := x - y - borrow
	return uint32(d), d >> 63
}
