package order_test

import (
	"math"
	"slices"
	"testing"

	"ravelin/api"
	"ravelin/bounds"
	"ravelin/capenc"
	"ravelin/capops"
	"ravelin/order"
)

// chance is a row of numbers that looks like chance, and is the same each time.
type chance struct{ state uint64 }

// next is the row's next number, below n.
func (r *chance) next(n int) int {
	r.state += 0x9E3779B97F4A7C15
	z := (r.state ^ r.state>>30) * 0xBF58476D1CE4E5B9
	z = (z ^ z>>27) * 0x94D049BB133111EB
	return int((z ^ z>>31) % uint64(n))
}

// shapes are bounds of all sorts: about the types' ends, everything, nothing, and such as end below their base, or above 2^64.
func shapes() []api.Cap {
	return []api.Cap{
		capenc.Root(0, 5), capenc.Root(1, most), laid(0, 1), laid(1, 1), laid(2, 1), laid(2, 2), laid(3, 1), laid(0, 4), at(laid(0, 4), 2), laid(1, 0), laid(0, 8), at(laid(0, 8), 3),
		laid(greatest, 1), laid(greatest-1, 4), laid(greatest+1, 8), laid(0, greatest), laid(0x1000, 64), at(laid(0x1000, 64), 0x1010), laid(0x1010, 16), laid(0x80000000, 1<<16), laid(1<<63, 1<<63), laid(most, 1), laid(most, most),
		{Tag: true, Perms: api.AllPerms, Type: none, E: 51, B: 0x2258, T: 0xFE8, Big: true, Addr: 0xFF60000000000000},
		{Tag: true, Perms: api.AllPerms, Type: none, E: 52, B: 0x1000, T: 0x800, Big: true, Addr: most},
	}
}

// some is a capability of a shape, with permissions that matter oftener than not, of a type or of none, and mostly with a tag.
func some(r *chance) api.Cap {
	list := shapes()
	perms := []int{toUnseal, toUnseal, toUnseal | toSeal, toSeal, execute, 0, api.AllPerms, api.AllPerms &^ api.PGlobal, api.AllPerms &^ toUnseal, api.AllPerms &^ toSeal, api.AllPerms &^ execute, r.next(1 << 16)}
	kinds := []int{0, 1, 2, 3, 0, 1, 2, 3, greatest, greatest + 1, sentry, sentry, sentry - 1, none, none, none, none, none}
	c := with(list[r.next(len(list))], perms[r.next(len(perms))])
	c.Type, c.Mode, c.Tag = kinds[r.next(len(kinds))], r.next(2), r.next(8) > 0
	return c
}

// pool is capabilities of all sorts.
func pool() []api.Cap {
	list := shapes()
	for r := (chance{1}); len(list) < 200; {
		list = append(list, some(&r))
	}
	return list
}

// mixture is a list of a few capabilities of which some are often twice in it, or a second time without a tag or a seal.
func mixture(r *chance) []api.Cap {
	var l []api.Cap
	for range r.next(12) {
		c := some(r)
		if len(l) > 0 && r.next(4) == 0 {
			c = l[r.next(len(l))]
			c.Tag = r.next(2) == 0
		}
		if r.next(8) == 0 {
			c.Type = none
		}
		l = append(l, c)
	}
	return l
}

// asked is what may, or may not, come of a list: what is like what it has, but for one thing, and some others.
func asked(r *chance, l []api.Cap) []api.Cap {
	list := caps(capenc.Root(0, 0), capenc.Number(5), some(r), some(r), some(r))
	for _, c := range l {
		tagged := c
		tagged.Tag = true
		bound, _ := bounds.Lay(tagged, uint64(r.next(20)))
		list = append(list, c, tagged, typed(tagged, none), with(typed(tagged, none), c.Perms&r.next(1<<16)), bound, typed(bound, none), capops.Mode(typed(tagged, none), 1), at(tagged, c.Addr+1))
		for _, kind := range []int{0, 1, 2, 3, greatest, greatest + 1, sentry} {
			list = append(list, typed(tagged, kind))
		}
	}
	return list
}

// The tests' own lists are about right capabilities, as the promises are.
func TestPoolIsRight(t *testing.T) {
	turned := 0
	for _, c := range pool() {
		if !capenc.Right(c) {
			t.Errorf("%+v is not right", c)
		}
		if base, top := trueBounds(c); base.Cmp(top) > 0 {
			turned++
		}
	}
	if turned == 0 {
		t.Error("none ends below its base")
	}
}

// P6.2: of all sorts of lists the closure is what the document's words say, in its order; among them are such as grow for many rounds.
func TestCloseIsTrue(t *testing.T) {
	r := chance{2}
	var grown [4]int
	for range 20000 {
		l := mixture(&r)
		want, rounds := trueClose(l)
		if got := order.Close(l); !same(got, want) {
			t.Fatalf("Close(%+v) = %+v, want %+v", l, got, want)
		}
		grown[min(rounds, 3)]++
	}
	if slices.Min(grown[:]) < 5 {
		t.Fatalf("rounds: %v", grown)
	}
}

// P6.3: of all sorts of lists what comes of them is what the document's words say.
func TestHasIsTrue(t *testing.T) {
	r := chance{3}
	told := map[bool]int{}
	for range 1500 {
		l := mixture(&r)
		for _, c := range asked(&r, l) {
			got := order.Has(l, c)
			if got != trueHas(l, c) {
				t.Fatalf("Has(%+v, %+v) = %v", l, c, got)
			}
			told[got]++
		}
	}
	if told[true] < 10000 || told[false] < 10000 {
		t.Fatalf("told: %v", told)
	}
}

// had is what of that comes of a list.
func had(l, from []api.Cap) []api.Cap {
	return slices.DeleteFunc(slices.Clone(from), func(c api.Cap) bool { return !order.Has(l, c) })
}

// made is what capops makes of a capability, and another one, with a number.
func made(a, b api.Cap, n int) []api.Cap {
	r := bounds.Of(a)
	return []api.Cap{
		capops.Move(a, r.Base+uint64(n%64)), capops.Move(a, r.Top), capops.Bound(a, uint64(n%20), n%2 == 0), capops.Less(a, n), capops.Mode(a, n),
		capops.Seal(a, b), capops.Seal(a, capops.Move(b, bounds.Of(b).Base)), capops.Seal(a, capops.Move(b, uint64(n%4))), capops.Unseal(a, b), capops.Unseal(a, capops.Move(b, uint64(a.Type))),
		capops.Sentry(a), capops.Build(a, b), capops.Typed(a, b), capops.From(a, uint64(n%64)),
	}
}

// P6.4: what capops makes of what a list has it has; and what is opened of a sentry that it has.
func TestClosed(t *testing.T) {
	r := chance{4}
	tagged, opened := make([]int, 14), 0
	for range 150 {
		l := mixture(&r)
		list := had(l, asked(&r, l))
		for _, a := range list {
			if a.Type == sentry && a.Tag {
				opened++
				if !order.Has(l, typed(a, none)) {
					t.Fatalf("%+v has %+v, and not what is opened of it", l, a)
				}
			}
			for range 6 {
				b := list[r.next(len(list))]
				for i, c := range made(a, b, r.next(1<<16)) {
					if !order.Has(l, c) {
						t.Fatalf("%d: of %+v, which has %+v and %+v, comes %+v", i, l, a, b, c)
					}
					if c.Tag {
						tagged[i]++
					}
				}
			}
		}
	}
	if slices.Min(tagged) < 5 || opened < 50 {
		t.Fatalf("made with a tag: %v; opened: %d", tagged, opened)
	}
}

// P6.5: what comes of a list, and of something that it has, comes of it.
func TestAgain(t *testing.T) {
	r := chance{5}
	came := 0
	for range 60 {
		l := mixture(&r)
		list := asked(&r, l)
		for _, x := range had(l, list) {
			if r.next(4) > 0 {
				continue
			}
			for _, more := range [][]api.Cap{append(slices.Clone(l), x), append(caps(x), l...)} {
				for _, c := range had(more, asked(&r, more)) {
					if !order.Has(l, c) {
						t.Fatalf("of %+v and %+v comes %+v, not of the first alone", l, x, c)
					}
					if c.Tag {
						came++
					}
				}
			}
		}
	}
	if came < 1000 {
		t.Fatalf("only %d came", came)
	}
}

// P6.5: what comes of some comes of more, wherever the more stands; and the closure of some is in that of more.
func TestMore(t *testing.T) {
	r := chance{6}
	for range 500 {
		l, other := mixture(&r), mixture(&r)
		for _, more := range [][]api.Cap{append(slices.Clone(l), other...), append(slices.Clone(other), l...)} {
			for _, c := range had(l, asked(&r, l)) {
				if !order.Has(more, c) {
					t.Fatalf("of %+v comes %+v, not of %+v", l, c, more)
				}
			}
			for _, c := range order.Close(l) {
				if !isOf(order.Close(more), c) {
					t.Fatalf("the closure of %+v has %+v, not that of %+v", l, c, more)
				}
			}
		}
	}
}

// P6.2: the closure has nothing more to lay.
func TestCloseAgain(t *testing.T) {
	r := chance{7}
	for range 3000 {
		once := order.Close(mixture(&r))
		if again := order.Close(once); !same(once, again) {
			t.Fatalf("%+v, again %+v", once, again)
		}
	}
}

// R3: the list, and the room behind its end, stay as they are; what is handed out shares nothing with it, nor with another answer.
func TestListsAreApart(t *testing.T) {
	r := chance{8}
	for range 500 {
		room := append(mixture(&r), make([]api.Cap, 12)...)
		for i := range room[len(room)-12:] {
			room[len(room)-12+i] = thing(i)
		}
		l, before := room[:len(room)-12], slices.Clone(room)
		first, second := order.Close(l), order.Close(l)
		if order.Has(l, thing(3)); !same(room, before) {
			t.Fatalf("%+v is now %+v", before, room)
		}
		kept := slices.Clone(second)
		for i := range first[:cap(first)] {
			first[:cap(first)][i] = api.Cap{Type: 77}
		}
		if !same(room, before) || !same(second, kept) || !same(order.Close(l), kept) {
			t.Fatalf("of %+v: what is handed out is shared", before)
		}
		clear(room)
		if !same(second, kept) {
			t.Fatalf("of %+v: what is handed in is kept", before)
		}
	}
}

// wrong is capabilities with fields that no capability has, as mixed as they can be.
func wrong() []api.Cap {
	list := caps(api.Cap{}, capenc.Root(0, 5), key(5), typed(thing(1), 5))
	wrongs := []int{math.MinInt, -1 << 32, -65, -8, -1, 53, 64, 256, 1 << 12, 1 << 14, 1 << 16, 1 << 18, 1 << 32, math.MaxInt}
	for i, v := range wrongs {
		w := wrongs[(i+5)%len(wrongs)]
		for _, tag := range []bool{false, true} {
			list = append(list,
				api.Cap{Tag: tag, Perms: v, Type: none, Mode: w, E: 52, Big: true, Addr: 5},
				api.Cap{Tag: tag, Perms: v, Type: w, Mode: v, E: w, B: v, T: w, Big: tag, Addr: uint64(v)},
				api.Cap{Tag: tag, Perms: -1, Type: none, E: v, B: w, T: v, Big: !tag, Addr: 1 << 63},
				api.Cap{Tag: tag, Type: v, B: 0x1000, T: w, Addr: most},
				api.Cap{Tag: tag, Perms: -1, Type: v, E: 52, Big: true},
			)
		}
	}
	return list
}

// recovered tells whether a call panics.
func recovered(call func()) (panicked bool) {
	defer func() { panicked = recover() != nil }()
	call()
	return false
}

// R1: fields that there are not make no call panic, and each ends; what has no tag is not in a closure even so, and nothing is twice.
func TestWrongFieldsEnd(t *testing.T) {
	list := wrong()
	for _, a := range list {
		for _, b := range list {
			if recovered(func() {
				order.Less(a, b)
				order.Has(caps(a), b)
				order.Has(caps(capenc.Root(0, 0), b), a)
				order.Close(caps(a, b, a))
			}) {
				t.Fatalf("%+v and %+v panic", a, b)
			}
		}
		if recovered(func() { order.Has(list, a) }) {
			t.Fatalf("%+v panics, asked of all", a)
		}
	}
	got := order.Close(list)
	for i, c := range got {
		if !c.Tag || isOf(got[:i], c) {
			t.Fatalf("%d: %+v", i, c)
		}
	}
	if slices.Reverse(list); recovered(func() { order.Close(list) }) {
		t.Fatal("all of them panic")
	}
}
