package capops_test

import (
	"math"
	"testing"

	"ravelin/api"
	"ravelin/bounds"
	"ravelin/capenc"
	"ravelin/capops"
)

// P5.5: what is built has a tag only where the one that permits it has one, is not sealed, and has all bounds and permissions; it is sealed only as a sentry; else it is as it was, without a tag.
func TestBuildExamples(t *testing.T) {
	root, c := capenc.Root(0, 0), plain(small())
	// These bounds end below their base; those end above 2^64.
	turned, tooFar := laid(most, most), laid(most, 2)
	for i, x := range []struct {
		by, c, want api.Cap
	}{
		{root, c, small()}, {small(), c, small()}, {root, small(), small()}, {at(small(), 0x1010), c, small()}, {at(small(), 0x2000), c, small()}, {at(small(), 1<<40), c, c}, {root, capenc.Number(5), with(capenc.Root(0, 5), 0)},
		{root, typed(c, 9), small()}, {root, typed(small(), 9), small()}, {root, typed(c, greatest+1), small()}, {root, typed(c, sentry-1), small()}, {root, typed(c, 0), small()},
		{root, typed(c, sentry), typed(small(), sentry)}, {root, typed(with(c, 2), sentry), typed(with(small(), 2), sentry)}, {root, typed(with(c, 5), sentry), with(small(), 5)}, {with(root, 5), typed(with(c, 5), sentry), with(small(), 5)},
		{laid(0x1000, 8), c, c}, {laid(0x1000, 15), c, c}, {laid(0x1001, 15), c, c}, {laid(0x1000, 16), c, small()}, {laid(0xFFF, 17), c, small()}, {laid(0xFFF, 18), c, small()}, {laid(0x2000, 16), c, c},
		{with(root, 7), c, c}, {with(root, api.AllPerms&^1), c, c}, {with(root, api.AllPerms>>1), c, c}, {with(root, 7), with(c, 7), with(small(), 7)}, {with(root, 7), with(c, 8), with(c, 8)}, {with(root, 7), with(c, 0), with(small(), 0)},
		{capenc.Number(0), c, c}, {plain(root), c, c}, {plain(root), small(), c}, {typed(root, 3), c, c}, {typed(root, sentry), c, c}, {typed(root, sentry-1), small(), c},
		{typed(root, 3), typed(c, 9), typed(c, 9)}, {with(root, 0), typed(small(), sentry), typed(c, sentry)}, {plain(root), typed(with(small(), 1), 5), typed(with(c, 1), 5)},
		{root, turned, plain(turned)}, {root, plain(turned), plain(turned)}, {turned, turned, plain(turned)}, {small(), turned, plain(turned)}, {root, tooFar, plain(tooFar)}, {tooFar, plain(tooFar), tooFar},
		{root, plain(laid(most, 1)), laid(most, 1)}, {root, plain(laid(0x1000, 0)), laid(0x1000, 0)}, {laid(0x1000, 0), plain(laid(0x1000, 0)), laid(0x1000, 0)}, {laid(0xFFF, 0), plain(laid(0x1000, 0)), plain(laid(0x1000, 0))},
	} {
		if got := capops.Build(x.by, x.c); got != x.want {
			t.Errorf("%d: Build(%+v, %+v) = %+v, want %+v", i, x.by, x.c, got, x.want)
		}
	}
}

// P5.5: what is built is what the document's words say, of all pairs.
func TestBuildIsTrue(t *testing.T) {
	built := 0
	eachPair(func(by, c api.Cap) {
		got, want := capops.Build(by, c), trueBuild(by, c)
		if got != want {
			t.Fatalf("Build(%+v, %+v) = %+v, want %+v", by, c, got, want)
		}
		if got.Tag {
			built++
		}
	})
	if built < 1000 {
		t.Fatalf("only %d are built", built)
	}
}

// P5.6: the type becomes the address, as far as it can be one and fits; else it is the number -1.
func TestTyped(t *testing.T) {
	root, low := capenc.Root(1, 99), laid(0, 8)
	for i, x := range []struct{ c, of, want api.Cap }{
		{root, typed(small(), 7), at(root, 7)}, {root, typed(small(), 0), at(root, 0)}, {root, typed(small(), greatest), at(root, greatest)}, {root, typed(plain(small()), 7), at(root, 7)},
		{root, typed(small(), greatest+1), capenc.Number(most)}, {root, typed(small(), sentry), capenc.Number(most)}, {root, small(), capenc.Number(most)}, {low, small(), capenc.Number(most)},
		{low, typed(small(), 7), at(low, 7)}, {low, typed(small(), 0x3FFF), plain(at(low, 0x3FFF))}, {low, typed(small(), greatest), plain(at(low, greatest))},
		{plain(root), typed(small(), 7), plain(at(root, 7))}, {typed(root, 3), typed(small(), 7), plain(at(typed(root, 3), 7))}, {typed(root, sentry), small(), capenc.Number(most)},
	} {
		if got := capops.Typed(x.c, x.of); got != x.want {
			t.Errorf("%d: Typed(%+v, %+v) = %+v, want %+v", i, x.c, x.of, got, x.want)
		}
	}
	eachPair(func(c, of api.Cap) {
		if got, want := capops.Typed(c, of), trueTyped(c, of); got != want {
			t.Fatalf("Typed(%+v, %+v) = %+v, want %+v", c, of, got, want)
		}
	})
}

// P5.6: a part of another has no other tag, no bounds beyond it, and no permissions besides; types and modes do not matter.
func TestSubset(t *testing.T) {
	root, c := capenc.Root(0, 0), small()
	for i, x := range []struct {
		a, b api.Cap
		want bool
	}{
		{root, c, true}, {c, root, false}, {c, c, true}, {root, plain(c), false}, {plain(root), c, false}, {plain(root), plain(c), true}, {plain(c), plain(root), false}, {capenc.Number(3), capenc.Number(9), true},
		{c, laid(0x1000, 15), true}, {c, laid(0x1000, 17), false}, {c, laid(0xFFF, 16), false}, {c, laid(0x1001, 15), true}, {laid(0x1000, 16), c, true},
		{with(c, 7), with(c, 3), true}, {with(c, 3), with(c, 7), false}, {with(c, 3), with(c, 4), false}, {with(c, 0), with(c, 0), true}, {root, with(c, 0), true},
		{typed(c, 5), c, true}, {c, typed(c, sentry), true}, {capops.Mode(c, 1), c, true}, {c, capops.Mode(c, 1), true}, {c, at(c, 0x1008), true},
	} {
		if got := capops.Subset(x.a, x.b); got != x.want {
			t.Errorf("%d: Subset(%+v, %+v) = %v", i, x.a, x.b, got)
		}
	}
	eachPair(func(a, b api.Cap) {
		if got, want := capops.Subset(a, b), trueSubset(a, b); got != want {
			t.Fatalf("Subset(%+v, %+v) = %v", a, b, got)
		}
	})
}

// P5.6: a number is a place behind the base; 0 is the null, whatever the capability is.
func TestFrom(t *testing.T) {
	c := at(small(), 0x1008)
	for i, x := range []struct {
		c    api.Cap
		n    uint64
		want api.Cap
	}{
		{c, 4, at(c, 0x1004)}, {c, 0, capenc.Number(0)}, {c, 1, at(c, 0x1001)}, {c, 0x10, at(c, 0x1010)}, {c, 0x37FF, at(c, 0x47FF)}, {c, 0x3800, plain(at(c, 0x4800))}, {c, most, at(c, 0xFFF)}, {c, 1 << 40, plain(at(c, 1<<40+0x1000))},
		{laid(most, 1), 1, at(laid(most, 1), 0)}, {laid(1<<63, 16), 1 << 63, plain(at(laid(1<<63, 16), 0))}, {laid(1<<63, 16), most, at(laid(1<<63, 16), 1<<63-1)}, {capenc.Root(0, 9), most, capenc.Root(0, most)},
		{typed(c, 5), 4, plain(at(typed(c, 5), 0x1004))}, {typed(c, 5), 0, capenc.Number(0)}, {plain(c), 4, plain(at(c, 0x1004))}, {plain(c), 0, capenc.Number(0)}, {capenc.Number(7), 4, capenc.Number(4)}, {capenc.Root(1, 9), 0, capenc.Number(0)},
	} {
		if got := capops.From(x.c, x.n); got != x.want {
			t.Errorf("%d: From(%+v, %#x) = %+v, want %+v", i, x.c, x.n, got, x.want)
		}
	}
	list := mixed(200)
	for _, c := range pool() {
		for i, n := range list {
			for _, n := range []uint64{n, uint64(i), -uint64(i), bounds.Len(bounds.Of(c)) + n%3 - 1} {
				if got, want := capops.From(c, n), trueFrom(c, n); got != want {
					t.Fatalf("From(%+v, %#x) = %+v, want %+v", c, n, got, want)
				}
			}
		}
	}
}

// P5.6: what is told of a capability is how far it is behind the other one's base, modulo 2^64; 0 of one without a tag.
func TestTo(t *testing.T) {
	c, root := at(small(), 0x1008), capenc.Root(0, 77)
	for i, x := range []struct {
		c, of api.Cap
		want  uint64
	}{
		{c, c, 8}, {c, plain(c), 8}, {plain(c), c, 0}, {capenc.Number(5), root, 0}, {c, root, 0x1008}, {root, c, most - 0x1000 + 78}, {at(root, 0xFFF), c, most}, {at(root, 0x1000), c, 0}, {typed(c, 5), c, 8}, {c, typed(c, sentry), 8}, {with(c, 0), with(c, 0), 8},
	} {
		if got := capops.To(x.c, x.of); got != x.want {
			t.Errorf("%d: To(%+v, %+v) = %#x, want %#x", i, x.c, x.of, got, x.want)
		}
	}
	eachPair(func(c, of api.Cap) {
		if got, want := capops.To(c, of), trueTo(c, of); got != want {
			t.Fatalf("To(%+v, %+v) = %#x, want %#x", c, of, got, want)
		}
	})
}

// P5.7: what is told of capabilities: the chapter's examples, types that have names, addresses below the base, tops at 2^64, above it, and below the base.
func TestGetExamples(t *testing.T) {
	root, sealed := capenc.Root(1, 4097), typed(with(small(), 0x8001), 5)
	for i, x := range []struct {
		fn   int
		c    api.Cap
		want uint64
	}{
		{api.GBase, small(), 0x1000}, {api.GLen, small(), 16}, {api.GTop, small(), 0x1010}, {api.GAddr, at(small(), 0x1008), 0x1008}, {api.GOffset, at(small(), 0x1008), 8}, {api.GOffset, at(small(), 0xFFF), most}, {api.GOffset, small(), 0},
		{api.GType, sealed, 5}, {api.GSealed, sealed, 1}, {api.GPerms, sealed, 0x8001}, {api.GTag, sealed, 1}, {api.GMode, sealed, 0},
		{api.GType, small(), most}, {api.GType, typed(small(), sentry), most - 1}, {api.GType, typed(small(), sentry-1), sentry - 1}, {api.GType, typed(small(), greatest), greatest}, {api.GType, typed(small(), greatest+1), greatest + 1}, {api.GType, typed(small(), 0), 0},
		{api.GSealed, small(), 0}, {api.GSealed, typed(small(), sentry), 1}, {api.GSealed, typed(small(), 0), 1}, {api.GSealed, plain(sealed), 1},
		{api.GTag, small(), 1}, {api.GTag, plain(small()), 0}, {api.GPerms, small(), api.AllPerms}, {api.GPerms, capenc.Number(5), 0}, {api.GMode, root, 1},
		{api.GBase, root, 0}, {api.GLen, root, most}, {api.GTop, root, most}, {api.GOffset, root, 4097}, {api.GRound, root, 4104}, {api.GMask, root, most - 7}, {api.GAddr, root, 4097},
		{api.GRound, small(), 0x1000}, {api.GMask, small(), most - 7}, {api.GRound, capenc.Number(4095), 4095}, {api.GMask, capenc.Number(4095), most}, {api.GRound, capenc.Number(most), 0}, {api.GMask, capenc.Number(most), most - 1<<55 + 1}, {api.GRound, capenc.Number(0), 0},
		{api.GTop, laid(most, 1), most}, {api.GLen, laid(most, 1), 1}, {api.GBase, laid(most, 1), most}, {api.GTop, laid(most, 0), most}, {api.GTop, laid(most-1, 1), most}, {api.GTop, laid(most-2, 1), most - 1}, {api.GTop, laid(most-7, 16), most}, {api.GLen, laid(most-7, 16), 16},
		{api.GLen, laid(most, most), 0}, {api.GTop, laid(most, most), 0}, {api.GBase, laid(most, most), 0xFF80000000000000}, {api.GLen, laid(5, 0), 0}, {api.GTop, laid(5, 0), 5},
	} {
		if got, ok := capops.Get(x.fn, x.c); got != x.want || !ok {
			t.Errorf("%d: Get(%d, %+v) = %#x, %v, want %#x", i, x.fn, x.c, got, ok, x.want)
		}
	}
}

// P5.7: what is told of all sorts of capabilities is what the document's words say; of numbers that none of the questions has, 0 and false.
func TestGetIsTrue(t *testing.T) {
	fns := []int{math.MinInt, -1 << 32, 1 << 32, 1<<32 + 4, math.MaxInt, 255, 256}
	for fn := -20; fn < 70; fn++ {
		fns = append(fns, fn)
	}
	for _, c := range pool() {
		known := 0
		for _, fn := range fns {
			want, is := trueGet(fn, c)
			if got, ok := capops.Get(fn, c); got != want || ok != is {
				t.Fatalf("Get(%d, %+v) = %#x, %v, want %#x, %v", fn, c, got, ok, want, is)
			}
			if is {
				known++
			}
		}
		if known != 12 {
			t.Fatalf("%d can be asked", known)
		}
	}
}

// made is what Move, Bound, Less and Mode make of a capability, at places, of lengths, permissions and modes that a number says.
func made(c api.Cap, n uint64) []api.Cap {
	r := bounds.Of(c)
	return []api.Cap{
		capops.Move(c, n), capops.Move(c, r.Base+n%64), capops.Move(c, r.Top-n%64), capops.Bound(c, n, true), capops.Bound(c, n, false), capops.Bound(c, (r.Top-c.Addr)>>(n%64), false), capops.Bound(c, (r.Top-c.Addr)>>(n%64), true),
		capops.Less(c, int(n)), capops.Less(c, -1), capops.Mode(c, int(n)),
	}
}

// noMore tells whether what is made is no more than what it is made of.
func noMore(c, of api.Cap) bool {
	if c.Tag && !of.Tag {
		return false
	}
	return !c.Tag || c.Type != none || trueWithin(c, of) && all(c.Perms, of.Perms)
}

// P5.8: nothing is made that is more than what it is made of, and nothing with a tag of what has none.
func TestNoMore(t *testing.T) {
	tagged := 0
	for _, c := range pool() {
		for _, n := range mixed(200) {
			for i, got := range made(c, n) {
				if !noMore(got, c) {
					t.Fatalf("%d: of %+v, by %#x, is made %+v", i, c, n, got)
				}
				if got.Tag {
					tagged++
				}
			}
		}
	}
	eachPair(func(a, b api.Cap) {
		if got := capops.Build(a, b); !noMore(got, a) {
			t.Fatalf("Build(%+v, %+v) = %+v", a, b, got)
		}
		for i, got := range []api.Cap{capops.Seal(a, b), capops.Unseal(a, b), capops.Typed(a, b), capops.Sentry(a), capops.From(a, b.Addr)} {
			if got.Tag && !a.Tag {
				t.Fatalf("%d: of %+v, by %+v, is made %+v", i, a, b, got)
			}
		}
	})
	if tagged < 10000 {
		t.Fatalf("only %d have a tag", tagged)
	}
}

// P5.9: what is sealed by one is opened by any that can and has the same address, and is as it was, but perhaps for PGlobal.
func TestSealedComesBack(t *testing.T) {
	back := 0
	for _, c := range pool() {
		for _, by := range pool() {
			by = at(by, uint64(by.T))
			sealed := capops.Seal(c, by)
			if !sealed.Tag {
				continue
			}
			for _, key := range []api.Cap{capenc.Root(1, by.Addr), with(by, by.Perms|api.PUnseal|api.PGlobal), with(laid(by.Addr, 1), api.PUnseal), with(laid(0, by.Addr+1), 0x100)} {
				key.Addr = by.Addr
				want := c
				if key.Perms&api.PGlobal == 0 {
					want.Perms &^= api.PGlobal
				}
				if !trueCanSeal(key) {
					continue
				}
				if got := capops.Unseal(sealed, key); got != want {
					t.Fatalf("%+v, sealed by %+v, opened by %+v, is %+v", c, by, key, got)
				}
				back++
			}
		}
	}
	if back < 1000 {
		t.Fatalf("only %d came back", back)
	}
}

// P5.9: what is sealed stays as it is, or loses its tag, whatever is done with it but Unseal.
func TestSealedStays(t *testing.T) {
	stays := func(got, c api.Cap) bool { return !got.Tag || got == c }
	for _, c := range pool() {
		if c.Type == none {
			continue
		}
		for _, n := range append(mixed(50), c.Addr, 0) {
			for i, got := range append(made(c, n), capops.From(c, n), capops.Sentry(c), capops.Mode(c, c.Mode)) {
				if !stays(got, c) {
					t.Fatalf("%d: of %+v, by %#x, is made %+v", i, c, n, got)
				}
			}
		}
		for _, by := range pool() {
			for _, by := range []api.Cap{by, at(by, 5), at(by, uint64(c.Type))} {
				if got := capops.Seal(c, by); !stays(got, c) {
					t.Fatalf("Seal(%+v, %+v) = %+v", c, by, got)
				}
				if got := capops.Typed(c, by); !stays(got, c) {
					t.Fatalf("Typed(%+v, %+v) = %+v", c, by, got)
				}
				if got := capops.Build(c, by); got.Tag {
					t.Fatalf("Build(%+v, %+v) = %+v", c, by, got)
				}
			}
		}
	}
}

// wrong is capabilities with fields that no capability has, as mixed as they can be.
func wrong() []api.Cap {
	var list []api.Cap
	wrongs := []int{math.MinInt, -1 << 32, -65, -8, -1, 53, 64, 256, 1 << 12, 1 << 14, 1 << 16, 1 << 18, 1 << 32, math.MaxInt}
	for i, v := range wrongs {
		w := wrongs[(i+5)%len(wrongs)]
		for _, tag := range []bool{false, true} {
			list = append(list,
				api.Cap{Tag: tag, Perms: v, Type: none, Mode: w, E: 52, Big: true, Addr: 5},
				api.Cap{Tag: tag, Perms: v, Type: w, Mode: v, E: w, B: v, T: w, Big: tag, Addr: uint64(v)},
				api.Cap{Tag: tag, Perms: -1, Type: none, E: v, B: w, T: v, Big: !tag, Addr: 1 << 63},
				api.Cap{Tag: tag, Type: v, B: 0x1000, T: w, Addr: most},
			)
		}
	}
	return append(list, api.Cap{}, capenc.Root(0, 5), small())
}

// R1: fields, permissions, modes and questions that there are not make no call panic.
func TestWrongFieldsEnd(t *testing.T) {
	list := wrong()
	for _, a := range list {
		for _, n := range []int{math.MinInt, -1, 0, 1, 16, 24, 1 << 32, math.MaxInt} {
			if recovered(func() { made(a, uint64(n)) }) || recovered(func() { capops.Less(a, n); capops.Mode(a, n); capops.From(a, uint64(n)) }) {
				t.Fatalf("%+v with %d panics", a, n)
			}
		}
		for fn := -2; fn < 40; fn++ {
			if recovered(func() { capops.Get(fn, a) }) {
				t.Fatalf("Get(%d, %+v) panics", fn, a)
			}
		}
		for _, b := range list {
			if recovered(func() {
				capops.Sealed(a)
				capops.Sentry(a)
				capops.Seal(a, b)
				capops.Unseal(a, b)
				capops.Build(a, b)
				capops.Typed(a, b)
				capops.Subset(a, b)
				capops.To(a, b)
			}) {
				t.Fatalf("%+v and %+v panic", a, b)
			}
		}
	}
}
