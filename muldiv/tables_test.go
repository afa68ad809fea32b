package muldiv

import (
	"math"
	"testing"

	"ravelin/api"
)

// stand is a table, and the worker beside it.
type stand struct {
	name  string
	table []operation
	work  worker
}

// stands is all of them, as a first call leaves them.
func stands() []stand {
	Do(api.MMul, false, 1, 1)
	return []stand{
		{"products64", products64, wideProduct},
		{"products32", products32, narrowProduct},
		{"atomics64", atomics64, wideAtomic},
		{"atomics32", atomics32, narrowAtomic},
	}
}

// P2.1, P2.2: a table has just the operations that are worked out, and each makes the same.
func TestTablesAreWhatIsWorkedOut(t *testing.T) {
	numbers := []uint64{0, 1, 2, 7, 1 << 31, 1<<32 - 1, 1<<32 + 8, 1 << 63, math.MaxUint64 - 6, math.MaxUint64}
	for _, x := range stands() {
		for fn := -2; fn < 40; fn++ {
			for _, a := range numbers {
				for _, b := range numbers {
					want, ok := x.work(fn, a, b)
					if has(x.table, fn) != ok {
						t.Fatalf("%s has %d: %v, worked out: %v", x.name, fn, !ok, ok)
					}
					if ok && x.table[fn](a, b) != want {
						t.Fatalf("%s, %d of %#x, %#x: %#x, worked out: %#x", x.name, fn, a, b, x.table[fn](a, b), want)
					}
				}
			}
		}
	}
}

// The section 'Ways': the tables are made when they are asked first, and not again.
func TestTablesAreMadeOnce(t *testing.T) {
	first := stands()
	Do(api.MRemu, true, 7, 2)
	Amo(api.XMaxu, 4, 7, 2)
	for i, x := range stands() {
		if len(x.table) == 0 || &x.table[0] != &first[i].table[0] {
			t.Errorf("%s was made again", x.name)
		}
	}
}

// R4: no answer hangs on what a table holds.
func TestAnswersHangOnArgumentsAlone(t *testing.T) {
	lying := make([]operation, 64)
	for fn := range lying {
		lying[fn] = func(a, b uint64) uint64 { return a - b - 1 }
	}
	for _, table := range [][]operation{nil, lying} {
		if v, ok := settle(table, api.MDiv, 5, true); v != 5 || !ok {
			t.Errorf("what was worked out is %d, %v", v, ok)
		}
		if v, ok := settle(table, api.MDiv, 0, false); v != 0 || ok {
			t.Errorf("nothing is %d, %v", v, ok)
		}
	}
}
