package order_test

import (
	"math"
	"slices"
	"testing"

	"ravelin/api"
	"ravelin/bounds"
	"ravelin/capenc"
	"ravelin/capops"
	"ravelin/order"
)

const most = math.MaxUint64

// caps is a list.
func caps(l ...api.Cap) []api.Cap { return l }

// plain is a capability without a tag.
func plain(c api.Cap) api.Cap {
	c.Tag = false
	return c
}

// at is a capability with that address, and its tag, whatever its bounds are then.
func at(c api.Cap, addr uint64) api.Cap {
	c.Addr = addr
	return c
}

// with is a capability with those permissions.
func with(c api.Cap, perms int) api.Cap {
	c.Perms = perms
	return c
}

// laid is a root's bytes from a place on.
func laid(addr, n uint64) api.Cap {
	c, _ := bounds.Lay(capenc.Root(0, addr), n)
	return c
}

// key is what may open one type, and nothing else.
func key(kind int) api.Cap {
	return with(laid(uint64(kind), 1), toUnseal)
}

// seal is what may seal with one type, and nothing else.
func seal(kind int) api.Cap {
	return with(laid(uint64(kind), 1), toSeal)
}

// thing is a capability that may nothing of what matters here, each with bounds of its own.
func thing(n int) api.Cap {
	return with(laid(uint64(n)<<20, 16), api.PLoad|api.PStore)
}

// same tells of lists whether they are one: nil and empty are.
func same(a, b []api.Cap) bool { return slices.Equal(a, b) }

// P6.1: what is less: the same, less bytes, less permissions; not what has one byte or one permission more; whatever the addresses and modes are.
func TestLessExamples(t *testing.T) {
	root, b := capenc.Root(0, 0x1000), laid(0x1000, 64)
	end := laid(most-15, 16)
	for i, x := range []struct {
		a, b api.Cap
		want bool
	}{
		{root, root, true}, {b, root, true}, {root, b, false}, {b, b, true}, {at(b, 0x1010), b, true}, {b, at(b, 0x1010), true}, {at(b, 0x1040), b, true}, {at(b, 0xFFF), b, true},
		{capenc.Root(1, 7), root, true}, {root, capenc.Root(1, 7), true},
		{laid(0x1000, 63), b, true}, {laid(0x1001, 63), b, true}, {laid(0x1001, 64), b, false}, {laid(0xFFF, 64), b, false}, {laid(0xFFF, 65), b, false}, {laid(0x1000, 65), b, false}, {laid(0x1000, 0), b, true}, {laid(0x1040, 0), b, true}, {laid(0x1041, 0), b, false},
		{end, root, true}, {root, end, false}, {laid(most-15, 15), end, true}, {end, laid(most-15, 15), false}, {laid(0, 16), end, false}, {end, laid(0, 16), false},
		{laid(0, 1<<63), root, true}, {root, laid(0, 1<<63), false}, {laid(most, most), laid(most, most), true},
		{with(b, 0), b, true}, {with(b, 0), with(b, 0), true}, {b, with(b, 0), false}, {with(b, 0x5555), with(b, 0xAAAA), false}, {with(root, 0), b, false}, {b, with(root, api.AllPerms-1), false},
	} {
		if got := order.Less(x.a, x.b); got != x.want {
			t.Errorf("%d: Less(%+v, %+v) = %v", i, x.a, x.b, got)
		}
	}
}

// P6.1: each permission counts.
func TestLessPermissions(t *testing.T) {
	for bit := range 16 {
		one := with(laid(0x1000, 64), 1<<bit)
		for other := range 16 {
			if got := order.Less(one, with(one, 1<<other)); got != (bit == other) {
				t.Errorf("permission %d, of %d: %v", bit, other, got)
			}
		}
		if !order.Less(one, capenc.Root(0, 0)) || order.Less(one, with(one, api.AllPerms&^(1<<bit))) || order.Less(with(one, api.AllPerms), one) {
			t.Errorf("permission %d", bit)
		}
	}
}

// P6.1: nothing is less, and nothing is more, than what has no tag, or is sealed, by whatever type.
func TestLessNeedsTagsAndNoSeals(t *testing.T) {
	c, root := laid(0x1000, 64), capenc.Root(0, 5)
	for i, x := range []struct{ a, b api.Cap }{{plain(c), root}, {c, plain(root)}, {plain(c), plain(root)}, {plain(c), plain(c)}, {capenc.Number(5), root}, {capenc.Number(5), capenc.Number(5)}, {plain(c), c}} {
		if order.Less(x.a, x.b) {
			t.Errorf("%d: Less(%+v, %+v)", i, x.a, x.b)
		}
	}
	for _, kind := range []int{0, 1, 5, greatest - 1, greatest, greatest + 1, sentry - 1, sentry} {
		s := typed(c, kind)
		if order.Less(s, root) || order.Less(c, typed(root, kind)) || order.Less(s, s) || order.Less(s, c) || order.Less(c, s) {
			t.Errorf("of type %d", kind)
		}
	}
}

// P6.1: of all sorts of pairs what the document's words say.
func TestLessIsTrue(t *testing.T) {
	list, is := pool(), 0
	for _, a := range list {
		for _, b := range list {
			got := order.Less(a, b)
			if got != trueLess(a, b) {
				t.Fatalf("Less(%+v, %+v) = %v", a, b, got)
			}
			if got {
				is++
			}
		}
	}
	if is < 100 {
		t.Fatalf("only %d are less", is)
	}
}

// P6.2: the chapter's examples.
func TestCloseExamples(t *testing.T) {
	r, other := capenc.Root(0, 5), capenc.Root(1, 9)
	s := capops.Seal(other, r)
	u := capops.Less(r, api.AllPerms&^api.PUnseal)
	if s.Type != 5 || !s.Tag {
		t.Fatalf("sealed: %+v", s)
	}
	for i, x := range []struct{ l, want []api.Cap }{{caps(s, u), caps(s, u)}, {caps(s, r), caps(s, r, other)}} {
		if got := order.Close(x.l); !same(got, x.want) {
			t.Errorf("%d: %+v", i, got)
		}
	}
}

// P6.2: those with a tag stay in order, each once; of none there is nothing.
func TestCloseKeepsOrder(t *testing.T) {
	a, b, c := thing(1), thing(2), thing(3)
	n, off := capenc.Number(7), plain(a)
	for i, x := range []struct{ l, want []api.Cap }{
		{nil, nil}, {caps(), nil}, {caps(n), nil}, {caps(n, off, n), nil}, {caps(api.Cap{}), nil},
		{caps(a), caps(a)}, {caps(c, a, b), caps(c, a, b)}, {caps(b, b), caps(b)}, {caps(c, a, c, b, a, c), caps(c, a, b)},
		{caps(off, a), caps(a)}, {caps(a, off), caps(a)}, {caps(n, c, off, b, n, a), caps(c, b, a)},
		{caps(a, at(a, 5), a), caps(a, at(a, 5))}, {caps(a, with(a, 0), capops.Mode(a, 1), a), caps(a, with(a, 0), capops.Mode(a, 1))},
		{caps(typed(a, 5), typed(a, 6), typed(a, 5)), caps(typed(a, 5), typed(a, 6))}, {caps(typed(a, 5), a), caps(typed(a, 5), a)},
	} {
		if got := order.Close(x.l); !same(got, x.want) {
			t.Errorf("%d: %+v", i, got)
		}
	}
}

// P6.2: sentries are opened, with PExecute and without, as they are and not what is less; one unsealed form is laid once.
func TestCloseOpensSentries(t *testing.T) {
	a, b := with(thing(1), execute), thing(2)
	for i, x := range []struct{ l, want []api.Cap }{
		{caps(typed(a, sentry)), caps(typed(a, sentry), a)}, {caps(typed(b, sentry)), caps(typed(b, sentry), b)}, {caps(typed(with(b, 0), sentry)), caps(typed(with(b, 0), sentry), with(b, 0))},
		{caps(plain(typed(a, sentry))), nil}, {caps(plain(typed(a, sentry)), b), caps(b)},
		{caps(typed(a, sentry), a), caps(typed(a, sentry), a)}, {caps(a, typed(a, sentry)), caps(a, typed(a, sentry))}, {caps(typed(a, sentry), plain(a)), caps(typed(a, sentry), a)},
		{caps(typed(b, sentry), b, typed(a, sentry), typed(b, sentry)), caps(typed(b, sentry), b, typed(a, sentry), a)},
		{caps(typed(b, sentry), typed(a, sentry)), caps(typed(b, sentry), typed(a, sentry), b, a)},
		{caps(typed(a, sentry), typed(a, 3), key(3)), caps(typed(a, sentry), typed(a, 3), key(3), a)},
		{caps(typed(a, sentry-1), typed(a, none-2)), caps(typed(a, sentry-1))},
	} {
		if got := order.Close(x.l); !same(got, x.want) {
			t.Errorf("%d: %+v", i, got)
		}
	}
}

// P6.2: what opens has a tag, is not sealed, has PUnseal, and the type in its bounds, wherever its address is; no type above MaxType is opened but the sentries'.
func TestCloseWhoOpens(t *testing.T) {
	c, root := thing(1), capenc.Root(0, 5)
	for i, x := range []struct {
		kind int
		by   api.Cap
		want bool
	}{
		{5, key(5), true}, {5, at(key(5), 6), true}, {5, at(key(5), 0), true}, {5, at(key(5), 8), true}, {5, key(4), false}, {5, key(6), false},
		{5, with(laid(4, 2), toUnseal), true}, {5, with(laid(3, 2), toUnseal), false}, {5, with(laid(5, 0), toUnseal), false}, {5, with(laid(0, 5), toUnseal), false}, {5, with(laid(0, 6), toUnseal), true}, {5, with(laid(5, 1<<40), toUnseal), true}, {5, with(laid(6, 1<<40), toUnseal), true}, {7, with(laid(8, 1<<9), toUnseal), false},
		{5, root, true}, {5, at(root, most), true}, {5, plain(root), false}, {5, plain(key(5)), false}, {5, typed(root, 6), false}, {5, typed(root, 7), false}, {5, typed(root, greatest+1), false},
		{5, with(root, toUnseal), true}, {5, with(root, api.AllPerms&^toUnseal), false}, {5, with(root, toSeal), false}, {5, with(root, 0), false}, {5, seal(5), false},
		{0, root, true}, {0, key(0), true}, {0, key(1), false}, {greatest, root, true}, {greatest, key(greatest), true}, {greatest, key(greatest - 1), false}, {greatest, key(greatest + 1), false},
		{greatest + 1, root, false}, {greatest + 1, key(greatest + 1), false}, {sentry - 1, root, false}, {sentry - 1, key(sentry - 1), false},
	} {
		for _, l := range [][]api.Cap{caps(typed(c, x.kind), x.by), caps(x.by, typed(c, x.kind))} {
			want := slices.Clone(l)
			if !x.by.Tag {
				want = caps(typed(c, x.kind))
			}
			if x.want {
				want = append(want, c)
			}
			if got := order.Close(l); !same(got, want) {
				t.Errorf("%d: Close(%+v) = %+v, want %+v", i, l, got, want)
			}
		}
	}
}

// P6.2: a sentry of a key is one that opens, once it is opened; a key opens what it is sealed with itself only if something else has opened it.
func TestCloseSealedKeys(t *testing.T) {
	c := thing(1)
	for i, x := range []struct{ l, want []api.Cap }{
		{caps(typed(c, 5), typed(key(5), sentry)), caps(typed(c, 5), typed(key(5), sentry), key(5), c)},
		{caps(typed(key(5), sentry), typed(c, 5)), caps(typed(key(5), sentry), typed(c, 5), key(5), c)},
		{caps(typed(key(5), 5), typed(c, 5)), caps(typed(key(5), 5), typed(c, 5))},
		{caps(typed(key(5), 6), typed(key(6), 5)), caps(typed(key(5), 6), typed(key(6), 5))},
		{caps(typed(key(5), 5), typed(c, 5), typed(key(5), 6), key(6)), caps(typed(key(5), 5), typed(c, 5), typed(key(5), 6), key(6), key(5), c)},
		{caps(typed(key(5), greatest+1), typed(c, 5), capenc.Root(0, 0)), caps(typed(key(5), greatest+1), typed(c, 5), capenc.Root(0, 0), c)},
		{caps(typed(key(5), greatest+1), typed(c, 5), key(greatest+1)), caps(typed(key(5), greatest+1), typed(c, 5), key(greatest+1))},
	} {
		if got := order.Close(x.l); !same(got, x.want) {
			t.Errorf("%d: %+v", i, got)
		}
	}
}

// P6.2: chains: each key opened by the one ahead comes of one round; each opened by the one behind of one more round; and the list is gone through to its end each time, with what it has by then.
func TestCloseChains(t *testing.T) {
	a, b, c, d := typed(key(2), 1), typed(key(3), 2), typed(key(4), 3), typed(thing(1), 4)
	s := typed(thing(2), sentry)
	for i, x := range []struct{ l, want []api.Cap }{
		{caps(key(1), a, b, c, d), caps(key(1), a, b, c, d, key(2), key(3), key(4), thing(1))},
		{caps(a, b, c, d, key(1)), caps(a, b, c, d, key(1), key(2), key(3), key(4), thing(1))},
		{caps(d, c, b, a, key(1)), caps(d, c, b, a, key(1), key(2), key(3), key(4), thing(1))},
		{caps(key(1), d, c, b, a), caps(key(1), d, c, b, a, key(2), key(3), key(4), thing(1))},
		{caps(d, a, key(1), s), caps(d, a, key(1), s, key(2), thing(2))},
		{caps(b, a, s, key(1)), caps(b, a, s, key(1), key(2), thing(2), key(3))},
		{caps(b, s, a, key(1)), caps(b, s, a, key(1), thing(2), key(2), key(3))},
		{caps(d, b, s, a, c, key(1)), caps(d, b, s, a, c, key(1), thing(2), key(2), key(3), key(4), thing(1))},
		{caps(d, c, s, b, key(2), a), caps(d, c, s, b, key(2), a, thing(2), key(3), key(4), thing(1))},
		{caps(a, b, c, d), caps(a, b, c, d)}, {caps(a, b, c, d, key(2)), caps(a, b, c, d, key(2), key(3), key(4), thing(1))}, {caps(a, b, c, d, key(4)), caps(a, b, c, d, key(4), thing(1))},
	} {
		if got := order.Close(x.l); !same(got, x.want) {
			t.Errorf("%d: %+v", i, got)
		}
		if want, _ := trueClose(x.l); !same(want, x.want) {
			t.Errorf("%d: the words say %+v", i, want)
		}
	}
}

// P6.2: long chains end, forward and backward, and in the order that the words say.
func TestCloseLongChains(t *testing.T) {
	const length = 2000
	l := caps(key(0))
	for i := range length {
		l = append(l, typed(key(i+1), i))
	}
	want := caps()
	for i := range length {
		want = append(want, key(i+1))
	}
	if got := order.Close(l); !same(got, append(slices.Clone(l), want...)) {
		t.Errorf("forward: %d", len(got))
	}
	slices.Reverse(l)
	if got := order.Close(l); !same(got, append(slices.Clone(l), want...)) {
		t.Errorf("backward: %d", len(got))
	}
}

// P6.3: the chapter's examples.
func TestHasExamples(t *testing.T) {
	r, other := capenc.Root(0, 5), capenc.Root(1, 9)
	s := capops.Seal(other, r)
	for i, x := range []struct {
		l    []api.Cap
		c    api.Cap
		want bool
	}{
		{caps(s), other, false}, {caps(s), plain(other), true},
		{caps(r), s, true}, {caps(r), capops.Sentry(other), true}, {caps(r), typed(other, greatest+1), false},
	} {
		if got := order.Has(x.l, x.c); got != x.want {
			t.Errorf("%d: Has(%+v, %+v) = %v", i, x.l, x.c, got)
		}
	}
}

// P6.3: what has no tag comes of all, and of nothing; what is one of the list comes of it, however it is sealed; of what has no tag comes nothing that has one.
func TestHasItself(t *testing.T) {
	c := thing(1)
	for i, kind := range []int{none, sentry, sentry - 1, greatest + 1, greatest, 5, 0} {
		s := typed(c, kind)
		for _, l := range [][]api.Cap{nil, caps(), caps(plain(s)), caps(capenc.Number(5), thing(2))} {
			if !order.Has(l, plain(s)) || order.Has(l, s) {
				t.Errorf("%d: of %+v", i, l)
			}
		}
		if !order.Has(caps(thing(2), s), s) || !order.Has(caps(s), s) || !order.Has(caps(s), plain(s)) || !order.Has(caps(s), capenc.Number(9)) {
			t.Errorf("%d: %+v is not of itself", i, s)
		}
		opens := kind == none || kind == sentry
		if order.Has(caps(s), at(c, 1<<20+4)) != opens || order.Has(caps(s), at(s, 1<<20+4)) != (kind == none) {
			t.Errorf("%d: %+v, elsewhere", i, s)
		}
	}
	if order.Has(caps(plain(capenc.Root(0, 0))), c) || order.Has(caps(plain(c)), c) || !order.Has(nil, api.Cap{}) {
		t.Error("of what has no tag")
	}
}

// P6.3: what is not sealed comes of what it is less than, of the list, and of what comes by opening.
func TestHasLess(t *testing.T) {
	c, r := thing(1), with(laid(0x1000, 64), api.AllPerms)
	for i, x := range []struct {
		l    []api.Cap
		c    api.Cap
		want bool
	}{
		{caps(r), r, true}, {caps(r), laid(0x1000, 64), true}, {caps(r), laid(0x1008, 8), true}, {caps(r), laid(0x1008, 56), true}, {caps(r), laid(0x1008, 57), false}, {caps(r), laid(0xFFF, 2), false},
		{caps(r), with(r, 0), true}, {caps(with(r, 6)), with(r, 2), true}, {caps(with(r, 6)), with(r, 3), false}, {caps(with(r, 1), with(r, 2)), with(r, 3), false},
		{caps(laid(0x1000, 32), laid(0x1020, 32)), r, false}, {caps(r), capenc.Root(0, 0x1000), false}, {caps(c, c, r), capops.Mode(r, 1), true},
		{caps(typed(r, 5), key(5)), laid(0x1004, 4), true}, {caps(typed(r, 5), key(6)), laid(0x1004, 4), false}, {caps(typed(r, 5), key(5)), r, true}, {caps(typed(r, 5), typed(key(5), 6), key(6)), with(r, 1), true},
		{caps(typed(r, sentry)), laid(0x1004, 4), true}, {caps(typed(with(r, 4), sentry)), with(laid(0x1004, 4), 4), true}, {caps(typed(with(r, 4), sentry)), with(laid(0x1004, 4), 2), false},
		{caps(typed(r, greatest+1), capenc.Root(0, 0)), r, true}, {caps(typed(r, greatest+1), key(greatest+1)), r, false}, {caps(typed(r, greatest), key(greatest)), r, true},
	} {
		if got := order.Has(x.l, x.c); got != x.want {
			t.Errorf("%d: Has(%+v, %+v) = %v", i, x.l, x.c, got)
		}
	}
}

// P6.3: a sentry comes of what its unsealed form comes of, if it has PExecute.
func TestHasSentries(t *testing.T) {
	c := with(laid(0x1000, 64), api.PLoad|execute)
	deaf := with(c, api.AllPerms&^execute)
	for i, x := range []struct {
		l    []api.Cap
		c    api.Cap
		want bool
	}{
		{caps(c), c, true}, {caps(c), with(c, execute), true}, {caps(c), at(c, 0x1004), true}, {caps(c), with(laid(0x1008, 8), execute), true}, {caps(c), with(c, api.PLoad), false}, {caps(c), with(c, 0), false}, {caps(c), with(c, api.PStore|execute), false}, {caps(c), laid(0xFFF, 4), false},
		{caps(deaf), deaf, false}, {caps(capenc.Root(0, 0)), deaf, false}, {caps(capenc.Root(0, 0)), c, true}, {caps(plain(c)), c, false}, {nil, c, false},
		{caps(typed(c, sentry)), at(c, 0x1004), true}, {caps(typed(deaf, sentry)), deaf, true}, {caps(typed(deaf, sentry)), at(deaf, 0x1004), false}, {caps(typed(deaf, sentry)), c, false},
		{caps(typed(c, 5)), c, false}, {caps(typed(c, 5), key(5)), c, true}, {caps(typed(c, 5), key(4)), c, false}, {caps(typed(c, greatest+1)), c, false},
	} {
		if got := order.Has(x.l, typed(x.c, sentry)); got != x.want {
			t.Errorf("%d: Has(%+v, a sentry of %+v) = %v", i, x.l, x.c, got)
		}
	}
}

// P6.3: what is sealed by a type up to MaxType comes of what its unsealed form comes of, if one of the closure can seal: it has PSeal, is not sealed, and has the type in its bounds.
func TestHasSealed(t *testing.T) {
	c := thing(1)
	for i, x := range []struct {
		l    []api.Cap
		kind int
		want bool
	}{
		{caps(c), 5, false}, {caps(c, seal(5)), 5, true}, {caps(seal(5), c), 5, true}, {caps(c, seal(5)), 4, false}, {caps(c, seal(5)), 6, false}, {caps(seal(5)), 5, false}, {caps(plain(c), seal(5)), 5, false},
		{caps(c, at(seal(5), 77)), 5, true}, {caps(c, with(laid(4, 2), toSeal)), 5, true}, {caps(c, with(laid(3, 2), toSeal)), 5, false}, {caps(c, with(laid(5, 0), toSeal)), 5, false}, {caps(c, with(laid(0, 6), toSeal)), 5, true},
		{caps(c, plain(seal(5))), 5, false}, {caps(c, typed(seal(5), 5)), 5, false}, {caps(c, typed(seal(5), 6)), 5, false}, {caps(c, typed(seal(5), greatest+1)), 5, false},
		{caps(c, key(5)), 5, false}, {caps(c, with(seal(5), api.AllPerms)), 5, true}, {caps(c, with(seal(5), api.AllPerms&^toSeal)), 5, false}, {caps(c, with(seal(5), 0)), 5, false},
		{caps(c, seal(0)), 0, true}, {caps(c, seal(greatest)), greatest, true}, {caps(c, seal(greatest+1)), greatest, false}, {caps(c, seal(greatest+1)), greatest + 1, false}, {caps(capenc.Root(0, 0)), greatest, true}, {caps(capenc.Root(0, 0)), greatest + 1, false}, {caps(capenc.Root(0, 0)), sentry - 1, false}, {caps(capenc.Root(0, 0)), sentry, false},
		{caps(c, typed(seal(5), sentry)), 5, true}, {caps(c, typed(seal(5), 6), key(6)), 5, true}, {caps(typed(c, 6), key(6), seal(5)), 5, true}, {caps(typed(c, 6), seal(5)), 5, false}, {caps(typed(c, 6), key(6), typed(seal(5), 7), key(7)), 5, true},
		{caps(typed(c, 5)), 5, true}, {caps(typed(c, 6), seal(5)), 6, true}, {caps(typed(c, greatest+1)), greatest + 1, true}, {caps(typed(c, greatest+1)), greatest, false}, {caps(typed(c, sentry), seal(5)), 5, true},
	} {
		if got := order.Has(x.l, typed(c, x.kind)); got != x.want {
			t.Errorf("%d: Has(%+v, of type %d) = %v", i, x.l, x.kind, got)
		}
	}
}
