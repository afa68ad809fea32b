package capops_test

import (
	"math"
	"testing"

	"ravelin/api"
	"ravelin/bounds"
	"ravelin/capenc"
	"ravelin/capops"
)

const most = math.MaxUint64

// mixed is a row of numbers of all sizes that looks like chance, and is the same each time.
func mixed(count int) []uint64 {
	list := make([]uint64, count)
	state := uint64(1)
	for i := range list {
		state += 0x9E3779B97F4A7C15
		z := (state ^ state>>30) * 0xBF58476D1CE4E5B9
		z = (z ^ z>>27) * 0x94D049BB133111EB
		list[i] = (z ^ z>>31) >> (i * 7 % 64)
	}
	return list
}

// small is a root's 16 bytes from 0x1000 on, just these.
func small() api.Cap {
	return api.Cap{Tag: true, Perms: api.AllPerms, Type: none, B: 0x1000, T: 0x010, Addr: 0x1000}
}

// at is a capability with that address, and its tag, whatever its bounds are then.
func at(c api.Cap, addr uint64) api.Cap {
	c.Addr = addr
	return c
}

// with is a capability with those permissions.
func with(c api.Cap, perms int) api.Cap {
	c.Perms = perms
	return c
}

// laid is a root's bytes from a place on.
func laid(addr, n uint64) api.Cap {
	c, _ := bounds.Lay(capenc.Root(0, addr), n)
	return c
}

// beyond is a capability with bounds that end far above 2^64, at a place that greater exponents can't tell.
func beyond() api.Cap {
	return api.Cap{Tag: true, Perms: api.AllPerms, Type: none, E: 51, B: 0x2258, T: 0xFE8, Big: true, Addr: 0xFF60000000000000}
}

// kinds are types about their ends, and such as nothing has.
func kinds() []int {
	return []int{0, 5, 6, greatest - 1, greatest, greatest + 1, sentry - 1, sentry, none}
}

// shapes are bounds of all sorts, with addresses in them, at their ends, and beside them: among them such as end below their base, or above 2^64.
func shapes() []api.Cap {
	list := []api.Cap{
		capenc.Root(0, 0), capenc.Root(1, 5), capenc.Root(0, most), capenc.Number(5), small(), at(small(), 0x100F), at(small(), 0x1010), at(small(), 0xFFF), at(small(), 1<<40),
		laid(0, greatest), laid(0, 6), at(laid(0, 6), 5), at(laid(0, 6), 6), laid(6, 1), laid(5, 1), laid(greatest, 1), laid(greatest+1, 1), laid(greatest, 8),
		laid(0x80000000, 1<<16), laid(1<<63, 1<<63), laid(most, 1), laid(most, 0), laid(most-15, 16), laid(most, most), laid(0, 0),
		{Tag: true, Perms: api.AllPerms, Type: none, E: 52, B: 0x1000, T: 0x800, Big: true, Addr: most},
		{Tag: true, Perms: api.AllPerms, Type: none, E: 51, B: 0x3FF8, T: 0x008, Big: true, Addr: most},
		{Tag: true, Perms: api.AllPerms, Type: none, E: 52, B: 0xFF8, T: 0, Big: true, Addr: most - 255},
	}
	list = append(list, beyond())
	for i, meta := range mixed(40) {
		c := capenc.Unpack(true, mixed(40)[39-i], meta)
		list = append(list, typed(c, none))
	}
	return list
}

// pool is right capabilities of all sorts: the shapes with a tag and without, sealed and not, with all permissions and few, in both modes.
func pool() []api.Cap {
	var list []api.Cap
	for i, c := range shapes() {
		list = append(list, c, plain(c), typed(with(c, api.AllPerms), kinds()[i%9]))
		c.Mode, c.Perms = i%2, 1<<(i%16)
		list = append(list, c, typed(c, kinds()[(i+4)%9]), with(c, api.AllPerms&^c.Perms), with(c, 0))
	}
	return list
}

// eachPair calls with all pairs of the pool.
func eachPair(call func(a, b api.Cap)) {
	list := pool()
	for _, a := range list {
		for _, b := range list {
			call(a, b)
		}
	}
}

// recovered tells whether a call panics.
func recovered(call func()) (panicked bool) {
	defer func() { panicked = recover() != nil }()
	call()
	return false
}

// The tests' own pool is about right capabilities, as the promises are, and has those that matter.
func TestPoolIsRight(t *testing.T) {
	over, turned := 0, 0
	for _, c := range pool() {
		if !capenc.Right(c) {
			t.Fatalf("%+v is not right", c)
		}
		base, top := trueBounds(c)
		if top.BitLen() > 64 && top.TrailingZeroBits() < 64 {
			over++
		}
		if base.Cmp(top) > 0 {
			turned++
		}
	}
	if over == 0 || turned == 0 {
		t.Fatalf("%d end above 2^64, %d below their base", over, turned)
	}
}

// P5.1: what is sealed is what has another type than none.
func TestSealed(t *testing.T) {
	for _, kind := range append(kinds(), -1, none+1, math.MinInt, math.MaxInt) {
		for _, c := range []api.Cap{small(), plain(small()), with(small(), 0), capenc.Number(7)} {
			if got := capops.Sealed(typed(c, kind)); got != (kind != none) {
				t.Errorf("Sealed(%+v) = %v", typed(c, kind), got)
			}
		}
	}
}

// P5.1: the tag stays where the address just fits, and goes where it just does not, and with what is sealed; the address is another one in any case.
func TestMoveExamples(t *testing.T) {
	sealed := typed(small(), 5)
	for _, x := range []struct {
		c    api.Cap
		at   uint64
		want bool
	}{
		{small(), 0x1008, true}, {small(), 1 << 40, false}, {small(), 0x1000, true}, {small(), 0x1010, true},
		{small(), 0x800, true}, {small(), 0x7FF, false}, {small(), 0x47FF, true}, {small(), 0x4800, false}, {small(), 0x5000, false}, {small(), 0, false}, {small(), most, false},
		{capenc.Root(1, 0), most, true}, {capenc.Root(0, most), 0, true}, {laid(most, 1), most, true}, {laid(most, 1), 0, true}, {laid(most, 1), 1 << 63, false},
		{sealed, 0x1008, false}, {sealed, 0x1000, false}, {typed(small(), api.TypeSentry), 0x1000, false}, {typed(small(), greatest+1), 0x1000, false},
		{plain(small()), 0x1008, false}, {capenc.Number(5), 6, false}, {with(small(), 0), 0x1004, true},
	} {
		want := at(x.c, x.at)
		want.Tag = x.want
		if got := capops.Move(x.c, x.at); got != want {
			t.Errorf("Move(%+v, %#x) = %+v, want %+v", x.c, x.at, got, want)
		}
	}
}

// P5.1: what is moved is what the document's words say, to places about the bounds' ends and everywhere.
func TestMoveIsTrue(t *testing.T) {
	list := mixed(50)
	for _, c := range pool() {
		r := bounds.Of(c)
		for i, step := range list {
			for _, place := range []uint64{step, c.Addr + 1<<(i%64), r.Base - 1<<(i%64), r.Base, r.Top, c.Addr} {
				if got, want := capops.Move(c, place), trueMove(c, place); got != want {
					t.Fatalf("Move(%+v, %#x) = %+v, want %+v", c, place, got, want)
				}
			}
		}
	}
}

// P5.2: the chapter's examples, bounds at the ends of others, bounds that can and can't be exact, and such as go beyond 2^64.
func TestBoundExamples(t *testing.T) {
	for _, x := range []struct {
		c           api.Cap
		n           uint64
		just, about bool // whether a tag stays, if it must be exact, if not
	}{
		{capenc.Root(0, 0x1000), 16, true, true},
		{at(small(), 0x1008), 16, false, false},
		{small(), 16, true, true}, {small(), 17, false, false}, {small(), 15, true, true}, {small(), 0, true, true},
		{at(small(), 0x1008), 8, true, true}, {at(small(), 0x1008), 9, false, false}, {at(small(), 0xFFF), 4, false, false}, {at(small(), 0xFFF), 0, false, false},
		{at(small(), 0x1010), 0, true, true}, {at(small(), 0x1010), 1, false, false}, {at(small(), 0x1011), 0, false, false},
		{capenc.Root(1, 8), 4095, true, true}, {capenc.Root(1, 1), 4095, true, true}, {capenc.Root(1, 1), 4096, false, true}, {capenc.Root(1, 8), 4096, true, true},
		{capenc.Root(0, 8), 4097, false, true}, {capenc.Root(0, 8), 1 << 20, false, true}, {capenc.Root(0, 0), 1 << 20, true, true},
		{laid(0, 4096), 4096, true, true}, {laid(0, 4096), 4097, false, false}, {laid(0, 4104), 4097, false, true}, {at(laid(0, 4104), 1), 4096, false, true}, {at(laid(8, 4096), 9), 4095, true, true}, {at(laid(8, 4104), 9), 4096, false, true}, {at(laid(8, 4096), 0x10), 4096, false, false},
		{capenc.Root(0, 0), most, false, true}, {capenc.Root(0, 0), 1 << 63, true, true}, {capenc.Root(0, 1<<63), 1 << 63, true, true}, {capenc.Root(0, 1), most, false, true},
		{capenc.Root(0, most), 1, true, true}, {capenc.Root(0, most), 0, true, true}, {capenc.Root(0, most), 2, false, false}, {capenc.Root(0, most-7), 16, false, false}, {capenc.Root(0, 1<<63), 1<<63 + 1, false, false},
		// What is laid of these is within all, but ends below its base.
		{capenc.Root(0, most), most, false, false}, {capenc.Root(0, 0xFFFFFFFFF0000000), most, false, false}, {capenc.Root(1, 0xFFC0000000000000), 0xFFFFFFFFFFFFC000, false, false},
		// This one's bounds have all that is asked first, but not all that is laid.
		{beyond(), 0xFFE0000000000000, false, false}, {beyond(), 0xFFE0000000000001, false, false}, {beyond(), 0xFFC0000000000000, false, false}, {beyond(), 0xFF80000000000000, false, true}, {beyond(), 1 << 63, false, true},
		{plain(capenc.Root(0, 0x1000)), 16, false, false}, {capenc.Number(0x1000), 0, false, false},
		{typed(small(), 5), 16, false, false}, {typed(small(), api.TypeSentry), 8, false, false}, {typed(capenc.Root(0, 0), greatest+1), 8, false, false},
		{with(small(), 0), 8, true, true},
	} {
		for _, exact := range []bool{true, false} {
			want, _ := bounds.Lay(x.c, x.n)
			want.Tag = x.about
			if exact {
				want.Tag = x.just
			}
			if got := capops.Bound(x.c, x.n, exact); got != want {
				t.Errorf("Bound(%+v, %#x, %v) = %+v, want %+v", x.c, x.n, exact, got, want)
			}
		}
	}
}

// P5.2: the chapter's example has just these bounds.
func TestBoundOfRoot(t *testing.T) {
	if got := capops.Bound(capenc.Root(0, 0x1000), 16, true); got != small() {
		t.Errorf("Bound of Root at 0x1000, 16 = %+v", got)
	}
	want := api.Cap{Tag: true, Perms: 7, Type: none, Mode: 1, E: 8, B: 0, T: 8, Big: true, Addr: 8}
	if got := capops.Bound(with(capenc.Root(1, 8), 7), 1<<20, false); got != want {
		t.Errorf("Bound of a root at 8, 2^20 = %+v, want %+v", got, want)
	}
}

// P5.2: what is bounded is what the document's words say, of lengths about what is there, and of all sizes.
func TestBoundIsTrue(t *testing.T) {
	tagged := 0
	list := mixed(64)
	for _, c := range pool() {
		r := bounds.Of(c)
		size, left := bounds.Len(r), r.Top-c.Addr
		for i, some := range list {
			for _, n := range []uint64{some, 1 << (i % 64), most << (i % 64), size + some%3 - 1, left + some%3 - 1, left >> (i % 64), 0} {
				for _, exact := range []bool{true, false} {
					got, want := capops.Bound(c, n, exact), trueBound(c, n, exact)
					if got != want {
						t.Fatalf("Bound(%+v, %#x, %v) = %+v, want %+v", c, n, exact, got, want)
					}
					if got.Tag {
						tagged++
					}
				}
			}
		}
	}
	if tagged < 1000 {
		t.Fatalf("only %d have a tag", tagged)
	}
}

// somePerms are sets of permissions, each alone and all but it, and such as have bits that no capability has.
func somePerms() []int {
	list := []int{0, api.AllPerms, 6, 0x5A5A, -1, math.MinInt, math.MaxInt, 1 << 16, 1<<32 + 5, -1 << 16, ^6}
	for bit := range 16 {
		list = append(list, 1<<bit, api.AllPerms&^(1<<bit), ^(1 << bit))
	}
	return list
}

// P5.3: permissions become those that are in both, and no others; the tag goes with what is sealed.
func TestLess(t *testing.T) {
	for _, x := range []struct{ had, perms, want int }{
		{api.AllPerms, 6, 6}, {6, api.AllPerms, 6}, {5, 6, 4}, {0, -1, 0}, {api.AllPerms, -1, api.AllPerms}, {api.AllPerms, 1 << 16, 0}, {api.AllPerms, ^1, api.AllPerms - 1}, {3, math.MinInt, 0}, {3, math.MaxInt, 3},
	} {
		if got := capops.Less(with(small(), x.had), x.perms); got != with(small(), x.want) {
			t.Errorf("Less of %#x by %#x = %+v", x.had, x.perms, got)
		}
		sealed := typed(small(), 5)
		if got := capops.Less(with(sealed, x.had), x.perms); got != plain(with(sealed, x.want)) {
			t.Errorf("Less of %#x, sealed, by %#x = %+v", x.had, x.perms, got)
		}
	}
	for _, c := range pool() {
		for _, perms := range somePerms() {
			if got, want := capops.Less(c, perms), trueLess(c, perms); got != want {
				t.Fatalf("Less(%+v, %#x) = %+v, want %+v", c, perms, got, want)
			}
		}
	}
}

// P5.3: the mode becomes the lowest bit; the tag goes with what is sealed.
func TestMode(t *testing.T) {
	for _, c := range pool() {
		for _, mode := range []int{0, 1, 2, 3, -1, -2, 1 << 32, 1<<32 + 1, math.MinInt, math.MinInt + 1, math.MaxInt, math.MaxInt - 1} {
			if got, want := capops.Mode(c, mode), trueMode(c, mode); got != want {
				t.Fatalf("Mode(%+v, %d) = %+v, want %+v", c, mode, got, want)
			}
		}
	}
	if got := capops.Mode(small(), 1); !got.Tag || got.Mode != 1 || capops.Mode(got, 2) != small() {
		t.Errorf("Mode(small, 1) = %+v", got)
	}
	if got := capops.Mode(typed(small(), sentry), 1); got.Tag || got.Mode != 1 {
		t.Errorf("Mode of a sentry = %+v", got)
	}
}

// P5.4: what is sealed has the sealer's address as its type: up to MaxType, by one that has PSeal and its address just in its bounds; else it loses its tag, and nothing but it.
func TestSealExamples(t *testing.T) {
	seal := with(laid(0, 8), api.PSeal)
	for i, x := range []struct {
		c, by api.Cap
		kind  int // below 0: no tag
	}{
		{small(), capenc.Root(0, 5), 5}, {small(), capenc.Root(1, 0), 0}, {small(), capenc.Root(0, greatest), greatest}, {small(), capenc.Root(0, greatest+1), -1}, {small(), capenc.Root(0, sentry), -1}, {small(), capenc.Root(0, none), -1},
		{small(), capenc.Root(0, 1<<32), -1}, {small(), capenc.Root(0, 1<<63), -1}, {small(), capenc.Root(0, most), -1}, {small(), capenc.Root(0, 1<<18), -1},
		{small(), seal, 0}, {small(), at(seal, 7), 7}, {small(), at(seal, 8), -1}, {small(), at(laid(5, 1), 5), 5}, {small(), at(laid(5, 1), 4), -1}, {small(), at(laid(5, 1), 6), -1}, {small(), laid(5, 0), -1},
		{small(), with(seal, 0), -1}, {small(), with(seal, api.AllPerms&^api.PSeal), -1}, {small(), with(seal, api.PUnseal), -1},
		{small(), plain(seal), -1}, {small(), typed(seal, 9), -1}, {small(), typed(seal, sentry), -1}, {small(), capenc.Number(5), -1},
		{plain(small()), seal, -1}, {typed(small(), 5), seal, -1}, {typed(small(), 0), seal, -1}, {typed(small(), sentry), seal, -1}, {typed(small(), greatest+1), seal, -1}, {capenc.Number(3), seal, -1},
		{with(small(), 0), seal, 0}, {capenc.Root(1, most), capenc.Root(0, 5), 5},
	} {
		want := plain(x.c)
		if x.kind >= 0 {
			want = typed(x.c, x.kind)
		}
		if got := capops.Seal(x.c, x.by); got != want {
			t.Errorf("%d: Seal(%+v, %+v) = %+v, want %+v", i, x.c, x.by, got, want)
		}
	}
}

// P5.4: what is sealed is opened by one that has PUnseal, and its type as its address, just in its bounds; PGlobal stays only if that has it; else it loses its tag, and nothing but it.
func TestUnsealExamples(t *testing.T) {
	sealed, key := typed(small(), 5), with(at(laid(0, 6), 5), api.PUnseal|api.PGlobal)
	local := with(small(), api.AllPerms&^api.PGlobal)
	for i, x := range []struct {
		c, by api.Cap
		open  bool
		want  api.Cap // if it is opened
	}{
		{sealed, capenc.Root(0, 5), true, small()}, {sealed, capenc.Root(1, 6), false, small()}, {sealed, capenc.Root(0, 4), false, small()}, {sealed, capenc.Root(0, 5+1<<32), false, small()}, {sealed, capenc.Root(0, 5+1<<18), false, small()},
		{sealed, key, true, small()}, {sealed, with(key, api.PUnseal), true, local}, {typed(local, 5), key, true, local}, {typed(local, 5), with(key, api.PUnseal), true, local},
		{typed(with(small(), 1), 5), key, true, with(small(), 1)}, {typed(with(small(), 1), 5), with(key, api.PUnseal), true, with(small(), 0)},
		{sealed, with(key, 0), false, small()}, {sealed, with(key, api.AllPerms&^api.PUnseal), false, small()}, {sealed, with(key, api.PSeal), false, small()},
		{sealed, at(laid(0, 5), 5), false, small()}, {sealed, at(laid(6, 1), 5), false, small()}, {sealed, laid(5, 1), true, small()}, {sealed, laid(5, 0), false, small()},
		{sealed, plain(key), false, small()}, {sealed, typed(key, 5), false, small()}, {sealed, typed(key, sentry), false, small()}, {sealed, sealed, false, small()}, {sealed, capenc.Number(5), false, small()},
		{plain(sealed), key, false, small()}, {small(), key, false, small()}, {small(), capenc.Root(0, none), false, small()},
		{typed(small(), sentry), capenc.Root(0, sentry), false, small()}, {typed(small(), greatest), capenc.Root(0, greatest), true, small()}, {typed(small(), greatest+1), capenc.Root(0, greatest+1), false, small()}, {typed(small(), 0), capenc.Root(0, 0), true, small()},
	} {
		want := plain(x.c)
		if x.open {
			want = x.want
		}
		if got := capops.Unseal(x.c, x.by); got != want {
			t.Errorf("%d: Unseal(%+v, %+v) = %+v, want %+v", i, x.c, x.by, got, want)
		}
	}
}

// P5.4: what is sealed and opened is what the document's words say, of all pairs, also where the sealer stands at the type, or beside it.
func TestSealsAreTrue(t *testing.T) {
	sealed, opened := 0, 0
	eachPair(func(c, by api.Cap) {
		for _, key := range []api.Cap{by, at(by, uint64(c.Type)), at(by, uint64(c.Type)+1), at(by, 5), at(by, greatest)} {
			if got, want := capops.Seal(c, key), trueSeal(c, key); got != want {
				t.Fatalf("Seal(%+v, %+v) = %+v, want %+v", c, key, got, want)
			} else if got.Tag {
				sealed++
			}
			if got, want := capops.Unseal(c, key), trueUnseal(c, key); got != want {
				t.Fatalf("Unseal(%+v, %+v) = %+v, want %+v", c, key, got, want)
			} else if got.Tag {
				opened++
			}
		}
	})
	if sealed < 1000 || opened < 1000 {
		t.Fatalf("only %d are sealed, %d opened", sealed, opened)
	}
}

// P5.4: a sentry is made of what has a tag, is not sealed, and has PExecute.
func TestSentry(t *testing.T) {
	for _, x := range []struct {
		c    api.Cap
		want bool
	}{
		{small(), true}, {with(small(), api.PExecute), true}, {at(small(), 1<<40), true}, {capenc.Root(1, 5), true},
		{with(small(), api.AllPerms&^api.PExecute), false}, {with(small(), 0), false}, {plain(small()), false}, {typed(small(), 5), false}, {typed(small(), sentry), false}, {typed(small(), sentry-1), false}, {capenc.Number(5), false},
	} {
		want := plain(x.c)
		if x.want {
			want = typed(x.c, sentry)
		}
		if got := capops.Sentry(x.c); got != want {
			t.Errorf("Sentry(%+v) = %+v, want %+v", x.c, got, want)
		}
	}
	for _, c := range pool() {
		if got, want := capops.Sentry(c), trueSentry(c); got != want {
			t.Fatalf("Sentry(%+v) = %+v, want %+v", c, got, want)
		}
	}
}
