package tests

import (
	"fmt"
	"math"
	"math/big"
	"slices"
	"strings"
	"testing"

	"loop.example/g00309/impl"
)

// plainLaid tells a hash's register and what it lays there by its bits written out.
func plainLaid(hash uint64) (int, int64) {
	digits := fmt.Sprintf("%064b", hash)
	register := 0
	for _, digit := range digits[:6] {
		register = 2*register + int(digit-'0')
	}
	noughts := strings.IndexByte(digits[6:], '1')
	if noughts < 0 {
		noughts = 58
	}
	return register, min(int64(noughts)+1, impl.MaxReg)
}

func plainRegs(hashes []uint64) []int64 {
	regs := make([]int64, impl.Regs)
	for _, hash := range hashes {
		at, laid := plainLaid(hash)
		regs[at] = max(regs[at], laid)
	}
	return regs
}

// plainHll is worked out from all hashes at once.
func plainHll(hashes []uint64) impl.Hll {
	l := slices.Clone(hashes)
	slices.Sort(l)
	l = slices.Compact(l)
	if len(l) <= impl.MaxExact {
		return impl.Hll{Exact: l}
	}
	return impl.Hll{Regs: plainRegs(l)}
}

func plainCount(regs []int64) int64 {
	x := new(big.Int)
	for _, reg := range regs {
		x.Add(x, new(big.Int).Exp(big.NewInt(2), big.NewInt(impl.MaxReg-reg), nil))
	}
	x.Quo(x, big.NewInt(32768))
	if x.Sign() == 0 {
		x.SetInt64(1)
	}
	all := new(big.Int).Mul(big.NewInt(2904064), big.NewInt(1099511627776))
	all.Quo(all, x)
	return all.Quo(all, big.NewInt(1000)).Int64()
}

func sameHll(a impl.Hll, b impl.Hll) bool {
	return slices.Equal(a.Exact, b.Exact) && slices.Equal(a.Regs, b.Regs)
}

func cloneHll(h impl.Hll) impl.Hll {
	return impl.Hll{Exact: slices.Clone(h.Exact), Regs: slices.Clone(h.Regs)}
}

func putHashes(h impl.Hll, hashes []uint64) impl.Hll {
	for _, hash := range hashes {
		h = impl.HllPut(h, hash)
	}
	return h
}

// someHashes are so many different ones, each register's in its turn, many of them with noughts ahead.
func someHashes(seed uint64, many int) []uint64 {
	s := steps(seed)
	have := map[uint64]int{}
	var l []uint64
	for len(l) < many {
		hash := s.next()<<58 | s.next()>>6>>(s.next()%59)
		if have[hash] == 0 {
			l = append(l, hash)
		}
		have[hash]++
	}
	return l
}

// countingHashes begin with 0, so that they are not spread at all.
func countingHashes(many int) []uint64 {
	var l []uint64
	for hash := range uint64(many) {
		l = append(l, hash)
	}
	return l
}

func allRegs(reg int64) []int64 {
	return slices.Repeat([]int64{reg}, impl.Regs)
}

func mixedRegs(seed uint64) []int64 {
	s := steps(seed)
	var l []int64
	for range impl.Regs {
		l = append(l, int64(s.next()%(impl.MaxReg+1)))
	}
	return l
}

func rightHlls() []impl.Hll {
	l := []impl.Hll{
		{},
		{Exact: []uint64{}, Regs: []int64{}},
		{Exact: []uint64{0}},
		{Exact: []uint64{math.MaxUint64}},
		{Exact: []uint64{0, 1, 1 << 63, math.MaxUint64}},
		{Exact: countingHashes(impl.MaxExact - 1)},
		{Exact: countingHashes(impl.MaxExact)},
		{Exact: countingHashes(impl.MaxExact), Regs: []int64{}},
		{Regs: allRegs(0)},
		{Regs: allRegs(0), Exact: []uint64{}},
		{Regs: allRegs(1)},
		{Regs: allRegs(impl.MaxReg - 1)},
		{Regs: allRegs(impl.MaxReg)},
	}
	for seed := range uint64(6) {
		l = append(l, impl.Hll{Regs: mixedRegs(seed)})
	}
	for _, many := range []int{2, 20, 21, impl.MaxExact - 1, impl.MaxExact, impl.MaxExact + 1, 100, 400} {
		l = append(l, plainHll(someHashes(uint64(many), many)))
	}
	return l
}

func withReg(at int, reg int64) []int64 {
	l := allRegs(3)
	l[at] = reg
	return l
}

func wrongHlls() map[string]impl.Hll {
	return map[string]impl.Hll{
		"falling":                     {Exact: []uint64{2, 1}},
		"falling at the end":          {Exact: []uint64{1, 5, 4}},
		"falling at the start":        {Exact: []uint64{2, 1, 3}},
		"falling as unsigned numbers": {Exact: []uint64{1 << 63, 1}},
		"twice":                       {Exact: []uint64{7, 7}},
		"0 twice":                     {Exact: []uint64{0, 0}},
		"twice at the end":            {Exact: []uint64{1, 2, math.MaxUint64, math.MaxUint64}},
		"41 Exact":                    {Exact: countingHashes(impl.MaxExact + 1)},
		"500 Exact":                   {Exact: countingHashes(500)},
		"1 register":                  {Regs: []int64{1}},
		"63 registers":                {Regs: allRegs(1)[:impl.Regs-1]},
		"65 registers":                {Regs: append(allRegs(1), 1)},
		"65 registers of 0":           {Regs: append(allRegs(0), 0)},
		"128 registers":               {Regs: append(allRegs(1), allRegs(1)...)},
		"500 registers":               {Regs: make([]int64, 500)},
		"the first below 0":           {Regs: withReg(0, -1)},
		"the last below 0":            {Regs: withReg(impl.Regs-1, -1)},
		"one far below 0":             {Regs: withReg(30, math.MinInt64)},
		"the first above MaxReg":      {Regs: withReg(0, impl.MaxReg+1)},
		"the last above MaxReg":       {Regs: withReg(impl.Regs-1, impl.MaxReg+1)},
		"one far above MaxReg":        {Regs: withReg(30, math.MaxInt64)},
		"Exact and Regs":              {Exact: []uint64{1, 2}, Regs: allRegs(1)},
		"one Exact and Regs of 0":     {Exact: []uint64{0}, Regs: allRegs(0)},
		"Exact and too few Regs":      {Exact: []uint64{1}, Regs: []int64{1}},
	}
}

func TestHllRight(t *testing.T) {
	for i, h := range rightHlls() {
		if !impl.HllRight(h) {
			t.Errorf("sketch %d is right: %+v", i, h)
		}
	}
}

func TestWrongHlls(t *testing.T) {
	for what, wrong := range wrongHlls() {
		if impl.HllRight(wrong) {
			t.Errorf("%s: right", what)
		}
		for _, hash := range []uint64{0, 1, 3, math.MaxUint64} {
			if got := impl.HllPut(wrong, hash); !sameHll(got, wrong) {
				t.Errorf("%s: HllPut of %d: %+v", what, hash, got)
			}
		}
		if got := impl.HllCount(wrong); got != 0 {
			t.Errorf("%s: HllCount: %d", what, got)
		}
		for _, right := range rightHlls() {
			if got := impl.HllMerge(wrong, right); !sameHll(got, impl.Hll{}) {
				t.Errorf("%s: HllMerge with a right one: %+v", what, got)
			}
			if got := impl.HllMerge(right, wrong); !sameHll(got, impl.Hll{}) {
				t.Errorf("%s: HllMerge of a right one with it: %+v", what, got)
			}
		}
		if got := impl.HllMerge(wrong, wrong); !sameHll(got, impl.Hll{}) {
			t.Errorf("%s: HllMerge with itself: %+v", what, got)
		}
	}
}

func TestHllPutExact(t *testing.T) {
	h := putHashes(impl.Hll{}, []uint64{9, math.MaxUint64, 0, 9, 4, 1 << 63, 0, 4})
	if want := []uint64{0, 4, 9, 1 << 63, math.MaxUint64}; !slices.Equal(h.Exact, want) || len(h.Regs) != 0 {
		t.Errorf("%+v, want Exact %v", h, want)
	}
}

func TestHllPutBeyondMaxExact(t *testing.T) {
	for _, hashes := range [][]uint64{someHashes(1, impl.MaxExact+1), countingHashes(impl.MaxExact + 1)} {
		most, last := hashes[:impl.MaxExact], hashes[impl.MaxExact]
		h := putHashes(impl.Hll{}, most)
		if !sameHll(h, plainHll(most)) || len(h.Exact) != impl.MaxExact {
			t.Fatalf("MaxExact hashes: %+v", h)
		}
		if again := impl.HllPut(h, most[3]); !sameHll(again, h) {
			t.Fatalf("one that is there: %+v", again)
		}
		h = impl.HllPut(h, last)
		if len(h.Exact) != 0 || !slices.Equal(h.Regs, plainRegs(hashes)) {
			t.Fatalf("one more: %+v, want Regs %v", h, plainRegs(hashes))
		}
		if again := putHashes(h, hashes); !sameHll(again, h) {
			t.Fatalf("all of them again: %+v", again)
		}
	}
}

func TestHllMergeAboutMaxExact(t *testing.T) {
	hashes := someHashes(2, impl.MaxExact+1)
	for _, many := range []int{0, 1, 2, impl.MaxExact - 1, impl.MaxExact, impl.MaxExact + 1} {
		want := plainHll(hashes[:many])
		for at := max(0, many-impl.MaxExact); at <= min(many, impl.MaxExact); at++ {
			// Some are in both, and count once.
			from := max(0, at-3)
			a, b := plainHll(hashes[:at]), plainHll(hashes[from:many])
			if got := impl.HllMerge(a, b); !sameHll(got, want) {
				t.Fatalf("%d and %d of %d hashes: %+v, want %+v", at, many-from, many, got, want)
			}
		}
	}
	full := plainHll(hashes[:impl.MaxExact])
	if got := impl.HllMerge(full, full); !sameHll(got, full) {
		t.Errorf("MaxExact with themselves: %+v", got)
	}
}

// laidAlone is what a hash lays in registers of 0.
func laidAlone(hash uint64) impl.Hll {
	return impl.HllPut(impl.Hll{Regs: allRegs(0)}, hash)
}

func TestWhatAHashLays(t *testing.T) {
	for register := range uint64(impl.Regs) {
		top := register << 58
		for other, want := range map[uint64]int64{
			0: impl.MaxReg, 1: impl.MaxReg, 2: impl.MaxReg, 3: impl.MaxReg,
			4: impl.MaxReg, 7: impl.MaxReg, 8: impl.MaxReg, 15: impl.MaxReg,
			16: impl.MaxReg - 1, 31: impl.MaxReg - 1, 32: impl.MaxReg - 2, 63: impl.MaxReg - 2,
			1 << 57: 1, 1<<58 - 1: 1, 1<<57 - 1: 2, 1 << 56: 2, 1<<56 - 1: 3, 1 << 55: 3,
		} {
			regs := allRegs(0)
			regs[register] = want
			if got := laidAlone(top | other); !sameHll(got, impl.Hll{Regs: regs}) {
				t.Fatalf("register %d, other bits %b: %+v, want %d", register, other, got, want)
			}
		}
	}
	for _, hash := range someHashes(3, 3000) {
		at, want := plainLaid(hash)
		got := laidAlone(hash)
		if got.Regs[at] != want || !sameHll(got, impl.Hll{Regs: plainRegs([]uint64{hash})}) {
			t.Fatalf("%064b: %v, want %d at %d", hash, got.Regs, want, at)
		}
	}
}

func TestARegisterHasTheGreatest(t *testing.T) {
	for have := range int64(impl.MaxReg + 1) {
		for _, hash := range []uint64{0, 16, 1 << 30, 1 << 57} {
			_, laid := plainLaid(hash)
			want := allRegs(have)
			want[0] = max(have, laid)
			if got := impl.HllPut(impl.Hll{Regs: allRegs(have)}, hash); !sameHll(got, impl.Hll{Regs: want}) {
				t.Fatalf("%d over %d: %+v", laid, have, got)
			}
			merged := impl.HllMerge(impl.Hll{Exact: []uint64{hash}}, impl.Hll{Regs: allRegs(have)})
			if !sameHll(merged, impl.Hll{Regs: want}) {
				t.Fatalf("%d brought together with %d: %+v", laid, have, merged)
			}
		}
	}
}

func TestHllMergeOfRegs(t *testing.T) {
	for seed := range uint64(20) {
		a, b := mixedRegs(seed), mixedRegs(seed+1000)
		want := make([]int64, impl.Regs)
		for i := range want {
			want[i] = max(a[i], b[i])
		}
		if got := impl.HllMerge(impl.Hll{Regs: a}, impl.Hll{Regs: b}); !sameHll(got, impl.Hll{Regs: want}) {
			t.Fatalf("%v and %v: %+v", a, b, got)
		}
	}
}

// mergedHashes parts a list anywhere, and brings the parts together in either order.
func mergedHashes(l []uint64, s *steps) impl.Hll {
	if len(l) < 2 || s.next()%6 == 0 {
		return putHashes(impl.Hll{}, l)
	}
	at := int(s.next() % uint64(len(l)+1))
	a, b := mergedHashes(l[:at], s), mergedHashes(l[at:], s)
	if s.next()%2 == 0 {
		a, b = b, a
	}
	return impl.HllMerge(a, b)
}

func hashLists() [][]uint64 {
	l := [][]uint64{nil, countingHashes(impl.MaxExact), countingHashes(impl.MaxExact + 1)}
	for seed, many := range []int{1, 2, 3, 10, 20, 30, 38, 39, 40, 41, 42, 60, 79, 80, 81, 150, 300} {
		l = append(l, someHashes(uint64(seed), many))
	}
	return l
}

func TestPromise7AnyOrderAndHowOften(t *testing.T) {
	for i, l := range hashLists() {
		want := plainHll(l)
		for seed := range uint64(5) {
			once := putHashes(impl.Hll{}, shuffled(l, seed))
			if !sameHll(once, want) || !impl.HllSame(once, want) || !impl.HllRight(once) {
				t.Fatalf("list %d, order %d: %+v, want %+v", i, seed, once, want)
			}
			twice := putHashes(impl.Hll{}, shuffled(slices.Concat(l, l), seed))
			if !sameHll(twice, want) {
				t.Fatalf("list %d twice, order %d: %+v, want %+v", i, seed, twice, want)
			}
		}
	}
}

func TestPromise7BroughtTogether(t *testing.T) {
	for i, l := range hashLists() {
		want := plainHll(l)
		for seed := range uint64(8) {
			s := steps(seed + 100)
			once := mergedHashes(shuffled(l, seed), &s)
			if !sameHll(once, want) || !impl.HllSame(once, want) || !impl.HllRight(once) {
				t.Fatalf("list %d, parts %d: %+v, want %+v", i, seed, once, want)
			}
			twice := mergedHashes(shuffled(slices.Concat(l, l), seed), &s)
			if !sameHll(twice, want) {
				t.Fatalf("list %d twice, parts %d: %+v, want %+v", i, seed, twice, want)
			}
		}
	}
}

func TestPromise7AnyRightSketches(t *testing.T) {
	l := rightHlls()
	for i, a := range l {
		if got := impl.HllMerge(a, a); !sameHll(got, a) {
			t.Fatalf("with itself: %+v, want %+v", got, a)
		}
		if got := impl.HllMerge(a, impl.Hll{}); !sameHll(got, a) {
			t.Fatalf("with the zero one: %+v, want %+v", got, a)
		}
		for _, b := range l {
			both := impl.HllMerge(a, b)
			if !impl.HllRight(both) || !sameHll(both, impl.HllMerge(b, a)) {
				t.Fatalf("either way round: %+v, %+v", a, b)
			}
			third := l[(i*7+3)%len(l)]
			if !sameHll(impl.HllMerge(both, third), impl.HllMerge(a, impl.HllMerge(b, third))) {
				t.Fatalf("two of three first: %+v, %+v, %+v", a, b, third)
			}
			for _, hash := range []uint64{0, 77, 1 << 57, math.MaxUint64} {
				ahead, behind := impl.HllMerge(impl.HllPut(a, hash), b), impl.HllPut(both, hash)
				if !sameHll(ahead, behind) {
					t.Fatalf("%d put ahead or behind: %+v, %+v", hash, ahead, behind)
				}
				if !sameHll(impl.HllPut(behind, hash), behind) {
					t.Fatalf("%d put twice: %+v", hash, behind)
				}
			}
		}
	}
}

func TestPromise8TheirNumberIsTold(t *testing.T) {
	for many := range impl.MaxExact + 1 {
		for _, l := range [][]uint64{someHashes(uint64(many)+50, many), countingHashes(many)} {
			h := putHashes(impl.Hll{}, append(shuffled(l, 1), l...))
			if got := impl.HllCount(h); got != int64(many) {
				t.Errorf("%d hashes, put twice: %d", many, got)
			}
			s := steps(many)
			if got := impl.HllCount(mergedHashes(slices.Concat(l, l), &s)); got != int64(many) {
				t.Errorf("%d hashes, brought together: %d", many, got)
			}
		}
	}
}

func TestHllCountOfRegs(t *testing.T) {
	lone := func(first int64, others int64) []int64 {
		l := allRegs(others)
		l[0] = first
		return l
	}
	for _, c := range []struct {
		what string
		regs []int64
		want int64
	}{
		{"all 0", allRegs(0), 45},
		{"all 1", allRegs(1), 90},
		{"all MaxReg: the sum is 64, the divided one 0", allRegs(impl.MaxReg), 3193052135805681},
		{"the sum is 2^14", allRegs(impl.MaxReg - 8), 3193052135805681},
		{"the sum is 2^15", allRegs(impl.MaxReg - 9), 3193052135805681},
		{"the sum is 2^16", allRegs(impl.MaxReg - 10), 1596526067902840},
		{"just below 2 times 2^15", lone(impl.MaxReg, impl.MaxReg-10), 3193052135805681},
		{"just below 2^15, rounded down to 0", lone(impl.MaxReg, impl.MaxReg-9), 3193052135805681},
		{"one 0 alone", lone(0, impl.MaxReg), 2904},
		{"one MaxReg alone", lone(impl.MaxReg, 0), 46},
	} {
		if plain := plainCount(c.regs); plain != c.want {
			t.Fatalf("%s: the test's own count is %d, want %d", c.what, plain, c.want)
		}
		if got := impl.HllCount(impl.Hll{Regs: c.regs}); got != c.want {
			t.Errorf("%s: %d, want %d", c.what, got, c.want)
		}
	}
}

func TestHllCountOfManyRegs(t *testing.T) {
	for seed := range uint64(300) {
		regs := mixedRegs(seed)
		// High ones come to few steps, where the rounding is to be seen.
		for i := range regs {
			regs[i] = max(regs[i], int64(seed%(impl.MaxReg+1)))
		}
		if got := impl.HllCount(impl.Hll{Regs: regs}); got != plainCount(regs) {
			t.Fatalf("%v: %d, want %d", regs, got, plainCount(regs))
		}
	}
	for _, l := range hashLists() {
		if h := putHashes(impl.Hll{}, l); len(h.Regs) > 0 && impl.HllCount(h) != plainCount(plainRegs(l)) {
			t.Fatalf("%d hashes: %d, want %d", len(l), impl.HllCount(h), plainCount(plainRegs(l)))
		}
	}
}

func TestHllSame(t *testing.T) {
	l := rightHlls()
	for i, a := range l {
		for j, b := range l {
			if got, want := impl.HllSame(a, cloneHll(b)), sameHll(a, b); got != want {
				t.Errorf("HllSame of the sketches %d and %d: %v", i, j, got)
			}
		}
	}
	for _, c := range []struct {
		what string
		a, b impl.Hll
		want bool
	}{
		{"none and empty", impl.Hll{}, impl.Hll{Exact: []uint64{}, Regs: []int64{}}, true},
		{"none and registers of 0", impl.Hll{}, impl.Hll{Regs: allRegs(0)}, false},
		{"one hash and another", impl.Hll{Exact: []uint64{1}}, impl.Hll{Exact: []uint64{2}}, false},
		{"one hash and one more", impl.Hll{Exact: []uint64{1}}, impl.Hll{Exact: []uint64{1, 2}}, false},
		{"hashes and none", impl.Hll{Exact: []uint64{0}}, impl.Hll{}, false},
		{"another first register", impl.Hll{Regs: withReg(0, 3)}, impl.Hll{Regs: withReg(0, 4)}, false},
		{"another last register", impl.Hll{Regs: withReg(63, 3)}, impl.Hll{Regs: withReg(63, 4)}, false},
		{"registers at other places", impl.Hll{Regs: withReg(1, 9)}, impl.Hll{Regs: withReg(2, 9)}, false},
	} {
		if impl.HllSame(c.a, c.b) != c.want || impl.HllSame(c.b, c.a) != c.want {
			t.Errorf("HllSame of %s is not %v", c.what, c.want)
		}
	}
}

// spoilHll overwrites the lists of a sketch up to their capacity.
func spoilHll(h impl.Hll) {
	exact, regs := h.Exact[:cap(h.Exact)], h.Regs[:cap(h.Regs)]
	for i := range exact {
		exact[i] = 99
	}
	for i := range regs {
		regs[i] = -99
	}
}

func TestHllsAreNewMemory(t *testing.T) {
	given := append(rightHlls(), wrongHlls()["twice"], wrongHlls()["41 Exact"], wrongHlls()["Exact and Regs"])
	for i, a := range given {
		for _, b := range given {
			keptA, keptB := cloneHll(a), cloneHll(b)
			for _, got := range []impl.Hll{
				impl.HllPut(a, 0), impl.HllPut(a, 1<<57), impl.HllPut(a, 12345),
				impl.HllMerge(a, b), impl.HllMerge(a, a), impl.HllMerge(a, impl.Hll{}), impl.HllMerge(impl.Hll{}, a),
			} {
				spoilHll(got)
			}
			if !sameHll(a, keptA) || !sameHll(b, keptB) {
				t.Fatalf("sketch %d, or what it is brought together with, is changed or shared", i)
			}
		}
	}
}

func TestHllsWithRoomBehind(t *testing.T) {
	// Room behind a list belongs to whoever handed it in.
	room := countingHashes(60)
	h := impl.Hll{Exact: room[:10]}
	impl.HllPut(h, 1000)
	impl.HllMerge(h, impl.Hll{Exact: []uint64{2000}})
	if !slices.Equal(room, countingHashes(60)) {
		t.Errorf("the room behind Exact is written: %v", room)
	}
}
