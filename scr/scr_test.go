package scr_test

import (
	"testing"

	"ravelin/api"
	"ravelin/scr"
)

// P17.2: every register reads as what the processor has there.
func TestRead(t *testing.T) {
	for _, h := range harts() {
		for _, no := range registers() {
			read(t, h, no)
		}
	}
	for _, no := range registers() {
		for _, c := range sorts() {
			h := marked(9)
			*field(h, no) = c
			if got := read(t, h, no); got != c {
				t.Fatalf("Read(%d): %+v; want %+v", no, got, c)
			}
		}
	}
}

// P17.2: a number that is none reads as a zero capability, is not written, and leaves all as it was.
func TestNone(t *testing.T) {
	h := marked(1)
	for _, no := range wrong() {
		if got := read(t, h, no); got != (api.Cap{}) {
			t.Fatalf("Read(%d): %+v", no, got)
		}
		for _, c := range []api.Cap{{}, root(5)} {
			if write(t, h, no, c) {
				t.Fatalf("Write(%d): true", no)
			}
		}
	}
	same(t, h, marked(1))
}

// P17.2: PCC is not written, whatever is given and whoever asks; the zero capability is not an exception, nor is what it has already.
func TestPcc(t *testing.T) {
	for _, priv := range privileges() {
		for _, c := range append(sorts(), asking(priv, every).Pcc) {
			h := asking(priv, every)
			if write(t, h, 0, c) {
				t.Fatalf("Write(0, %+v) of %d: true", c, priv)
			}
			same(t, h, asking(priv, every))
			if got := read(t, h, 0); got != h.Pcc {
				t.Fatalf("Read(0): %+v", got)
			}
		}
	}
}

// P17.2: Read and Write ask for no privilege, and for no PSystem: that is May's.
func TestNoAsking(t *testing.T) {
	for _, priv := range privileges() {
		for _, no := range registers()[1:] {
			h := asking(priv, 0)
			if got := read(t, h, no); got == (api.Cap{}) {
				t.Errorf("Read(%d) of %d: %+v", no, priv, got)
			}
			if !write(t, h, no, root(66)) || *field(h, no) != root(66) {
				t.Errorf("Write(%d) of %d", no, priv)
			}
		}
	}
}

// P17.2, P17.3: what is written is there, as it was handed in, right or not, and is read; nothing else changes.
func TestWrite(t *testing.T) {
	for _, from := range harts() {
		for _, no := range registers()[1:] {
			for _, c := range sorts() {
				h := *from
				if !write(t, &h, no, c) || *field(&h, no) != c {
					t.Fatalf("Write(%d, %+v): %+v", no, c, *field(&h, no))
				}
				if got := read(t, &h, no); got != c {
					t.Fatalf("Read(%d) behind %+v: %+v", no, c, got)
				}
			}
		}
	}
}

// P17.3: no other register is another one: each write, one behind the other, stays till its register is written again.
func TestWriteAll(t *testing.T) {
	h := marked(4)
	kept := map[int]api.Cap{0: h.Pcc}
	for i := range uint64(5000) {
		no := registers()[1:][mix(i)%9]
		c := sorts()[mix(i+1<<20)%uint64(len(sorts()))]
		c.Addr = mix(i + 1<<21)
		kept[no] = c
		if !write(t, h, no, c) {
			t.Fatalf("Write(%d): false", no)
		}
		for other, want := range kept {
			if got := read(t, h, other); got != want {
				t.Fatalf("Read(%d) behind Write(%d): %+v; want %+v", other, no, got, want)
			}
		}
	}
	if len(kept) != 10 {
		t.Errorf("%d registers were written", len(kept)-1)
	}
}

// P17.3: one register written leaves all nine others, and the 32, as they were.
func TestWriteOne(t *testing.T) {
	for _, no := range registers()[1:] {
		h, ahead := marked(6), marked(6)
		if !scr.Write(h, no, root(1)) {
			t.Errorf("Write(%d): false", no)
		}
		for _, other := range registers() {
			want := scr.Read(ahead, other)
			if other == no {
				want = root(1)
			}
			if got := scr.Read(h, other); got != want {
				t.Errorf("Read(%d) behind Write(%d): %+v; want %+v", other, no, got, want)
			}
		}
		if h.X != ahead.X {
			t.Errorf("Write(%d) changed one of the 32", no)
		}
	}
}

// P17.1, P17.3: a write changes what May says by Priv and Pcc alone, which it leaves: nothing.
func TestMayBehindWrite(t *testing.T) {
	for _, priv := range privileges() {
		for _, perms := range []int{every, 0} {
			h := asking(priv, perms)
			for _, no := range registers() {
				write(t, h, no, api.Cap{Perms: every - perms})
			}
			for no := -2; no <= 33; no++ {
				if got, want := may(t, h, no, true, 4), plainMay(asking(priv, perms), no, true, 4); got != want {
					t.Errorf("May(%d) of %d: %+v; want %+v", no, priv, got, want)
				}
			}
		}
	}
}

// The chapter's examples.
func TestExamples(t *testing.T) {
	h := &api.Hart{}
	if got := scr.May(h, 12, false, 7); got != trap(illegal, 7) {
		t.Errorf("May of a user, 12, raw 7: %+v", got)
	}
	if got := scr.May(h, 1, true, 7); got != (api.Trap{}) {
		t.Errorf("May of a user, 1: %+v", got)
	}
	h.Priv = api.Machine
	if got := scr.May(h, 28, false, 7); got != trap(refused, noSystem) {
		t.Errorf("May of a machine, 28: %+v", got)
	}
	if got := scr.May(h, 0, false, 7); got != (api.Trap{}) {
		t.Errorf("May of a machine, 0: %+v", got)
	}
	if scr.Write(h, 0, root(1)) || scr.Write(h, 2, root(1)) {
		t.Error("Write 0, Write 2: true")
	}
	if !scr.Write(h, 14, root(5)) || scr.Read(h, 14) != root(5) || h.Sscr != root(5) {
		t.Errorf("Write 14, Read 14: %+v", scr.Read(h, 14))
	}
}

// The numbers, and the value of a refusal, are those of package api.
func TestApiNumbers(t *testing.T) {
	numbers := []int{api.SPcc, api.SDdc, api.SStcc, api.SStdc, api.SSscr, api.SSepcc, api.SMtcc, api.SMtdc, api.SMscr, api.SMepcc}
	for i, no := range registers() {
		if numbers[i] != no {
			t.Errorf("%s is %d", names()[no], numbers[i])
		}
	}
	if api.EIllegal != illegal || api.ECap != refused || 32*api.ByPcc+api.VSystem != noSystem || api.PSystem != system {
		t.Error("the trap's numbers")
	}
}
