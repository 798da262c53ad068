package tests

import (
	"math"
	"math/big"
	"math/bits"
	"slices"
	"sort"
	"testing"

	"loop.example/g00309/impl"
)

const lastBin = 6878

// put is one value that comes so many times.
type put struct {
	value  int64
	weight uint64
}

// someNumbers are numbers from 1 to MaxValue, with those about each end of a bin's doublings.
func someNumbers() []int64 {
	var l []int64
	for v := int64(1); v <= 5000; v++ {
		l = append(l, v)
	}
	for e := 8; e < 60; e++ {
		for _, m := range []int64{128, 129, 130, 200, 254, 255} {
			low := m << (e - 8)
			l = append(l, low-1, low, low+1)
		}
	}
	l = append(l, impl.MaxValue-1, impl.MaxValue)
	for _, v := range someValues() {
		l = append(l, v, -v)
	}
	l = slices.DeleteFunc(l, func(v int64) bool { return v < 1 || v > impl.MaxValue })
	slices.Sort(l)
	return slices.Compact(l)
}

// plainBin tells a bin by the number's length in bits, apart from the program's way.
func plainBin(v int64) int64 {
	e := max(bits.Len64(uint64(v))-8, 0)
	return 128*int64(e) + v>>e
}

func TestBinOf(t *testing.T) {
	for v, want := range map[int64]int64{
		1: 1, 2: 2, 127: 127, 128: 128, 254: 254, 255: 255,
		256: 256, 257: 256, 258: 257, 511: 383, 512: 384, 515: 384, 516: 385,
		1023: 511, 1024: 512, 1 << 59: 6656 + 128, impl.MaxValue - 1: lastBin, impl.MaxValue: lastBin,
		0: 0, -1: 0, -256: 0, -impl.MaxValue: 0, impl.MaxValue + 1: 0, math.MaxInt64: 0, math.MinInt64: 0,
	} {
		if got := impl.BinOf(v); got != want {
			t.Errorf("BinOf(%d): %d, want %d", v, got, want)
		}
	}
	for _, v := range someNumbers() {
		if got := impl.BinOf(v); got != plainBin(v) {
			t.Fatalf("BinOf(%d): %d, want %d", v, got, plainBin(v))
		}
	}
}

func TestBinLow(t *testing.T) {
	for at, want := range map[int64]int64{
		1: 1, 127: 127, 128: 128, 255: 255, 256: 256, 257: 258, 383: 510, 384: 512, 385: 516,
		lastBin: 222 << 52, lastBin + 1: 223 << 52, 6911: 255 << 52, 6912: 128 << 53, 7000: 216 << 53,
		0: 0, -1: 0, -256: 0, 7001: 0, 7040: 0, math.MaxInt64: 0, math.MinInt64: 0,
	} {
		if got := impl.BinLow(at); got != want {
			t.Errorf("BinLow(%d): %d, want %d", at, got, want)
		}
	}
}

func TestPromise4LeastNumbers(t *testing.T) {
	for _, v := range someNumbers() {
		low := impl.BinLow(impl.BinOf(v))
		if low < 1 || low > v {
			t.Fatalf("the least number of the bin of %d is %d", v, low)
		}
		// As whole numbers: 128 times what lies between is below the least number.
		if v-low > (low-1)/128 {
			t.Fatalf("%d is a 128th below %d, or more", low, v)
		}
		if impl.BinOf(low) != impl.BinOf(v) {
			t.Fatalf("%d is not in the bin of %d", low, v)
		}
		if low > 1 && impl.BinOf(low-1) >= impl.BinOf(low) {
			t.Fatalf("%d is not the least number of its bin", low)
		}
	}
}

func TestPromise4BinsRise(t *testing.T) {
	numbers := someNumbers()
	for i := 1; i < len(numbers); i++ {
		if impl.BinOf(numbers[i-1]) > impl.BinOf(numbers[i]) {
			t.Fatalf("the bins of %d and %d fall", numbers[i-1], numbers[i])
		}
	}
	for at := int64(1); at <= lastBin; at++ {
		low := impl.BinLow(at)
		if impl.BinOf(low) != at {
			t.Fatalf("BinOf(BinLow(%d)): %d", at, impl.BinOf(low))
		}
		if at < lastBin && impl.BinOf(impl.BinLow(at+1)-1) != at {
			t.Fatalf("the greatest number of the bin %d is not in it", at)
		}
	}
	for at := int64(2); at <= 7000; at++ {
		if impl.BinLow(at-1) >= impl.BinLow(at) {
			t.Fatalf("the least numbers of the bins %d and %d do not rise", at-1, at)
		}
	}
}

func binsFrom(first int64, step int64, many int) []impl.Bin {
	var l []impl.Bin
	for i := range many {
		l = append(l, impl.Bin{At: first + step*int64(i), Weight: uint64(i) + 1})
	}
	return l
}

func rightSketches() []impl.Sketch {
	few := []impl.Bin{{At: 3, Weight: 2}, {At: 255, Weight: 1}, {At: 256, Weight: 7}}
	most := []impl.Bin{{At: 5, Weight: greatestWeight}, {At: 9, Weight: greatestWeight - 1}}
	l := []impl.Sketch{
		{},
		{Pos: []impl.Bin{}, Neg: []impl.Bin{}},
		{Zero: 1},
		{Zero: greatestWeight, Sum: impl.Wide{High: math.MinInt64}},
		{Pos: []impl.Bin{{At: 1, Weight: 1}}},
		{Neg: []impl.Bin{{At: lastBin, Weight: 1}}},
		{Pos: []impl.Bin{{At: 1, Weight: 1}, {At: lastBin, Weight: greatestWeight}}, Sum: impl.WideOf(-7)},
		{Zero: 4, Pos: few, Neg: most, Sum: impl.Wide{High: math.MaxInt64, Low: greatestWeight}},
		{Zero: 9, Pos: most, Neg: few},
		{Pos: binsFrom(1, 1, impl.MaxBins), Neg: binsFrom(lastBin-impl.MaxBins+1, 1, impl.MaxBins)},
		{Pos: binsFrom(2, 200, impl.MaxBins), Neg: binsFrom(1, 237, impl.MaxBins-1), Zero: 3},
		{Pos: binsFrom(240, 1, impl.MaxBins-1), Neg: binsFrom(1, 2, impl.MaxBins)},
	}
	for seed := range 30 {
		l = append(l, plainSketch(somePuts(uint64(seed), seed*3)))
	}
	return l
}

func wrongSketches() map[string]impl.Sketch {
	wrong := map[string]impl.Sketch{}
	for what, bins := range map[string][]impl.Bin{
		"falling":              {{At: 2, Weight: 1}, {At: 1, Weight: 1}},
		"falling at the end":   {{At: 1, Weight: 1}, {At: 5, Weight: 1}, {At: 4, Weight: 1}},
		"falling at the start": {{At: 2, Weight: 1}, {At: 1, Weight: 1}, {At: 3, Weight: 1}},
		"twice":                {{At: 2, Weight: 1}, {At: 2, Weight: 1}},
		"twice at the end":     {{At: 1, Weight: 1}, {At: 2, Weight: 1}, {At: 2, Weight: 2}},
		"bin 0":                {{At: 0, Weight: 1}},
		"bin 0 first":          {{At: 0, Weight: 1}, {At: 1, Weight: 1}},
		"bin -1":               {{At: -1, Weight: 1}, {At: 1, Weight: 1}},
		"the least number":     {{At: math.MinInt64, Weight: 1}},
		"bin 6879":             {{At: lastBin + 1, Weight: 1}},
		"bin 6879 last":        {{At: 1, Weight: 1}, {At: lastBin + 1, Weight: 1}},
		"bin 7000":             {{At: 7000, Weight: 1}},
		"bin 7001":             {{At: 7001, Weight: 1}},
		"the greatest number":  {{At: math.MaxInt64, Weight: 1}},
		"weight 0":             {{At: 1, Weight: 0}},
		"weight 0 first":       {{At: 1, Weight: 0}, {At: 2, Weight: 1}},
		"weight 0 last":        {{At: 1, Weight: 1}, {At: 2, Weight: 0}},
		"the zero bin":         {{}},
		"31 bins":              binsFrom(1, 1, impl.MaxBins+1),
		"400 bins":             binsFrom(1, 1, impl.MaxList),
		"500 bins":             binsFrom(1, 1, impl.MaxList+100),
	} {
		wrong["Pos "+what] = impl.Sketch{Zero: 1, Pos: bins, Sum: impl.WideOf(5)}
		wrong["Neg "+what] = impl.Sketch{Zero: 1, Neg: bins, Sum: impl.WideOf(5)}
		wrong["both "+what] = impl.Sketch{Pos: bins, Neg: bins}
		wrong["beside a right Neg, Pos "+what] = impl.Sketch{Pos: bins, Neg: binsFrom(1, 1, 3)}
		wrong["beside a right Pos, Neg "+what] = impl.Sketch{Pos: binsFrom(1, 1, 3), Neg: bins}
	}
	return wrong
}

func sameSketch(a impl.Sketch, b impl.Sketch) bool {
	return a.Zero == b.Zero && a.Sum == b.Sum && slices.Equal(a.Pos, b.Pos) && slices.Equal(a.Neg, b.Neg)
}

func cloneSketch(s impl.Sketch) impl.Sketch {
	s.Pos, s.Neg = slices.Clone(s.Pos), slices.Clone(s.Neg)
	return s
}

func TestSketchRight(t *testing.T) {
	for _, s := range rightSketches() {
		if !impl.SketchRight(s) {
			t.Errorf("SketchRight(%+v) is false", s)
		}
	}
}

func TestWrongSketches(t *testing.T) {
	right := rightSketches()
	for what, s := range wrongSketches() {
		kept := cloneSketch(s)
		if impl.SketchRight(s) {
			t.Errorf("SketchRight of %s is true", what)
		}
		for _, v := range []int64{0, 1, -1, 300, impl.MaxValue, impl.MaxValue + 1} {
			if got := impl.SketchPut(s, v, 1); !sameSketch(got, kept) {
				t.Errorf("SketchPut of %d into %s: %+v, want it as it is", v, what, got)
			}
		}
		for _, r := range append(right, s) {
			if got := impl.SketchMerge(s, r); !sameSketch(got, impl.Sketch{}) {
				t.Errorf("SketchMerge of %s and another: %+v, want the zero one", what, got)
			}
			if got := impl.SketchMerge(r, s); !sameSketch(got, impl.Sketch{}) {
				t.Errorf("SketchMerge of another and %s: %+v, want the zero one", what, got)
			}
		}
		if got := impl.SketchWeight(s); got != 0 {
			t.Errorf("SketchWeight of %s: %d, want 0", what, got)
		}
		for _, rank := range []uint64{0, 1, 2, greatestWeight} {
			if got := impl.SketchRank(s, rank); got != 0 {
				t.Errorf("SketchRank %d of %s: %d, want 0", rank, what, got)
			}
		}
		if !sameSketch(s, kept) {
			t.Errorf("%s is changed", what)
		}
	}
}

// somePuts are values above and below 0, and 0, of near sizes and far ones, some of them with great weights.
func somePuts(seed uint64, many int) []put {
	s := steps(seed*7919 + 11)
	var l []put
	for range many {
		v := int64(s.next() % (impl.MaxValue + 1))
		v >>= s.next() % 61
		if s.next()%2 == 0 {
			v = -v
		}
		weight := 1 + s.next()%5
		if s.next()%8 == 0 {
			weight = s.next() >> (s.next() % 64)
		}
		l = append(l, put{value: v, weight: max(weight, 1)})
	}
	return l
}

// plainSketch has all values at hand at once, and big numbers, apart from the program's way.
func plainSketch(l []put) impl.Sketch {
	zero, sum := new(big.Int), new(big.Int)
	pos, neg := map[int64]*big.Int{}, map[int64]*big.Int{}
	for _, p := range l {
		weight := new(big.Int).SetUint64(p.weight)
		sum.Add(sum, new(big.Int).Mul(big.NewInt(p.value), weight))
		if p.value == 0 {
			zero.Add(zero, weight)
		} else if p.value > 0 {
			addBig(pos, plainBin(p.value), weight)
		} else {
			addBig(neg, plainBin(-p.value), weight)
		}
	}
	return impl.Sketch{Zero: bounded(zero), Pos: plainBins(pos), Neg: plainBins(neg), Sum: wideOfBig(sum)}
}

func addBig(m map[int64]*big.Int, at int64, weight *big.Int) {
	if m[at] == nil {
		m[at] = new(big.Int)
	}
	m[at].Add(m[at], weight)
}

func bounded(n *big.Int) uint64 {
	if !n.IsUint64() {
		return greatestWeight
	}
	return n.Uint64()
}

func wideOfBig(n *big.Int) impl.Wide {
	n = wrapped(n)
	high := new(big.Int).Rsh(n, 64)
	low := new(big.Int).Sub(n, new(big.Int).Lsh(high, 64))
	return impl.Wide{High: high.Int64(), Low: low.Uint64()}
}

// plainBins puts what is below the 30th greatest bin into that one.
func plainBins(m map[int64]*big.Int) []impl.Bin {
	var places []int64
	for at := range m {
		places = append(places, at)
	}
	sort.Slice(places, func(i, j int) bool { return places[i] > places[j] })
	least := int64(0)
	if len(places) > impl.MaxBins {
		least = places[impl.MaxBins-1]
	}
	together := map[int64]*big.Int{}
	for at, weight := range m {
		addBig(together, max(at, least), weight)
	}
	var l []impl.Bin
	for at, weight := range together {
		l = append(l, impl.Bin{At: at, Weight: bounded(weight)})
	}
	sort.Slice(l, func(i, j int) bool { return l[i].At < l[j].At })
	return l
}

func putAll(s impl.Sketch, l []put) impl.Sketch {
	for _, p := range l {
		s = impl.SketchPut(s, p.value, p.weight)
	}
	return s
}

func TestSketchPut(t *testing.T) {
	l := []put{{5, 2}, {-5, 3}, {0, 4}, {256, 1}, {257, 6}, {-1, 1}, {impl.MaxValue, 2}, {-impl.MaxValue, 9}, {5, 1}}
	got := putAll(impl.Sketch{}, l)
	want := impl.Sketch{
		Zero: 4,
		Pos:  []impl.Bin{{At: 5, Weight: 3}, {At: 256, Weight: 7}, {At: lastBin, Weight: 2}},
		Neg:  []impl.Bin{{At: 1, Weight: 1}, {At: 5, Weight: 3}, {At: lastBin, Weight: 9}},
		Sum:  wideOfBig(big.NewInt(15 - 15 + 256 + 6*257 - 1 - 7*impl.MaxValue)),
	}
	if !sameSketch(got, want) {
		t.Errorf("got %+v, want %+v", got, want)
	}
}

func TestSketchPutOfWhatIsWrong(t *testing.T) {
	for _, s := range rightSketches() {
		for _, p := range []put{
			{impl.MaxValue + 1, 1}, {-impl.MaxValue - 1, 1}, {math.MaxInt64, 1}, {math.MinInt64, 1},
			{0, 0}, {1, 0}, {-1, 0}, {impl.MaxValue, 0}, {impl.MaxValue + 1, 0},
		} {
			if got := impl.SketchPut(s, p.value, p.weight); !sameSketch(got, s) {
				t.Errorf("SketchPut of %d with the weight %d: %+v, want %+v", p.value, p.weight, got, s)
			}
		}
	}
}

func TestSketchPutBeyondMaxBins(t *testing.T) {
	for _, sign := range []int64{1, -1} {
		side := func(s impl.Sketch) []impl.Bin {
			if sign > 0 {
				return s.Pos
			}
			return s.Neg
		}
		var s impl.Sketch
		for v := int64(100); v < 100+impl.MaxBins; v++ {
			s = impl.SketchPut(s, sign*v, 1)
		}
		if bins := side(s); len(bins) != impl.MaxBins || bins[0] != (impl.Bin{At: 100, Weight: 1}) {
			t.Fatalf("MaxBins bins: %v", bins)
		}
		lesser := side(impl.SketchPut(s, sign*7, 5))
		if len(lesser) != impl.MaxBins || lesser[0] != (impl.Bin{At: 100, Weight: 6}) || lesser[29] != (impl.Bin{At: 129, Weight: 1}) {
			t.Errorf("a lesser one more: %v", lesser)
		}
		greater := side(impl.SketchPut(s, sign*300, 5))
		if len(greater) != impl.MaxBins || greater[0] != (impl.Bin{At: 101, Weight: 2}) || greater[29] != (impl.Bin{At: 278, Weight: 5}) {
			t.Errorf("a greater one more: %v", greater)
		}
		there := side(impl.SketchPut(s, sign*110, 5))
		if len(there) != impl.MaxBins || there[0] != (impl.Bin{At: 100, Weight: 1}) || there[10] != (impl.Bin{At: 110, Weight: 6}) {
			t.Errorf("one that is there: %v", there)
		}
	}
}

func TestSketchMergeBeyondMaxBins(t *testing.T) {
	low := impl.Sketch{Pos: binsFrom(1, 1, impl.MaxBins), Neg: binsFrom(1, 2, impl.MaxBins)}
	high := impl.Sketch{Pos: binsFrom(101, 1, impl.MaxBins), Neg: binsFrom(2, 2, impl.MaxBins)}
	got := impl.SketchMerge(low, high)
	if got.Pos[0] != (impl.Bin{At: 101, Weight: 1 + 465}) || !slices.Equal(got.Pos[1:], high.Pos[1:]) {
		t.Errorf("all of the lesser ones go into the least of the others: %v", got.Pos)
	}
	// Of 1 to 60, twice the weights 1 to 30: those up to 30 have 2 times 120, and 31 has 16.
	if len(got.Neg) != impl.MaxBins || got.Neg[0] != (impl.Bin{At: 31, Weight: 240 + 16}) || got.Neg[29] != (impl.Bin{At: 60, Weight: 30}) {
		t.Errorf("of both by turns: %v", got.Neg)
	}
}

func TestWeightsStayAtTheirBound(t *testing.T) {
	for _, v := range []int64{0, 300, -300} {
		s := putAll(impl.Sketch{}, []put{{v, greatestWeight - 1}, {v, 1}})
		if got := impl.SketchWeight(s); got != greatestWeight {
			t.Errorf("2^64-2 and 1 of %d: %d", v, got)
		}
		more := impl.SketchPut(s, v, 1)
		if got := impl.SketchWeight(more); got != greatestWeight {
			t.Errorf("2^64-1 and 1 of %d: %d", v, got)
		}
		twice := impl.SketchMerge(more, more)
		if want := plainSketch([]put{{v, greatestWeight}, {v, greatestWeight}, {2 * v, 1}}); twice.Sum != want.Sum {
			t.Errorf("the sum of %d goes on: %+v, want %+v", v, twice.Sum, want.Sum)
		}
		if !impl.SketchRight(twice) || impl.SketchWeight(twice) != greatestWeight {
			t.Errorf("twice: %+v", twice)
		}
		if got := impl.SketchRank(twice, greatestWeight-1); got != impl.SketchRank(s, 0) {
			t.Errorf("the last rank of %d: %d", v, got)
		}
		if got := impl.SketchRank(twice, greatestWeight); got != 0 {
			t.Errorf("a rank that is not below, of %d: %d", v, got)
		}
	}
	apart := putAll(impl.Sketch{}, []put{{-9, 1 << 63}, {0, 1 << 62}, {9, 1 << 62}, {10, 5}})
	if got := impl.SketchWeight(apart); got != greatestWeight {
		t.Errorf("weights of all sides: %d", got)
	}
	if got := impl.SketchRank(apart, greatestWeight-1); got != 9 {
		t.Errorf("the rank where weights come to their bound: %d", got)
	}
}

func TestWeightsOfGatheredBinsStayAtTheirBound(t *testing.T) {
	var l []put
	for v := int64(1); v <= impl.MaxBins+2; v++ {
		l = append(l, put{v, 1 << 63}, put{-v, 1 << 62})
	}
	s := putAll(impl.Sketch{}, l)
	if s.Pos[0] != (impl.Bin{At: 3, Weight: greatestWeight}) || s.Neg[0] != (impl.Bin{At: 3, Weight: 3 << 62}) {
		t.Errorf("gathered: %v, %v", s.Pos[0], s.Neg[0])
	}
}

// shuffled puts a list in another order, told by the seed.
func shuffled[T any](l []T, seed uint64) []T {
	s := steps(seed)
	l = slices.Clone(l)
	for i := len(l) - 1; i > 0; i-- {
		j := int(s.next() % uint64(i+1))
		l[i], l[j] = l[j], l[i]
	}
	return l
}

// mergedInParts parts a list anywhere, and brings the parts together in either order.
func mergedInParts(l []put, s *steps) impl.Sketch {
	if len(l) < 2 || s.next()%6 == 0 {
		return putAll(impl.Sketch{}, l)
	}
	at := int(s.next() % uint64(len(l)+1))
	a, b := mergedInParts(l[:at], s), mergedInParts(l[at:], s)
	if s.next()%2 == 0 {
		a, b = b, a
	}
	return impl.SketchMerge(a, b)
}

func putLists() [][]put {
	var l [][]put
	for seed := range uint64(40) {
		l = append(l, somePuts(seed, int(seed)*4))
	}
	// Near values, of few bins more than MaxBins on a side.
	for _, many := range []int64{impl.MaxBins - 1, impl.MaxBins, impl.MaxBins + 1, 2 * impl.MaxBins} {
		var near []put
		for v := int64(1); v <= many; v++ {
			near = append(near, put{v, uint64(v)}, put{-10 * v, 1}, put{v, greatestWeight / 3})
		}
		l = append(l, near)
	}
	return l
}

func TestPromise5AnyOrder(t *testing.T) {
	for i, l := range putLists() {
		want := plainSketch(l)
		for seed := range uint64(6) {
			got := putAll(impl.Sketch{}, shuffled(l, seed))
			if !sameSketch(got, want) || !impl.SketchSame(got, want) {
				t.Fatalf("list %d, order %d: %+v, want %+v", i, seed, got, want)
			}
			if !impl.SketchRight(got) {
				t.Fatalf("list %d, order %d: not right: %+v", i, seed, got)
			}
		}
	}
}

func TestPromise5BroughtTogether(t *testing.T) {
	for i, l := range putLists() {
		want := plainSketch(l)
		for seed := range uint64(6) {
			s := steps(seed + 100)
			got := mergedInParts(shuffled(l, seed), &s)
			if !sameSketch(got, want) || !impl.SketchSame(got, want) {
				t.Fatalf("list %d, parts %d: %+v, want %+v", i, seed, got, want)
			}
		}
	}
}

func TestPromise5AnyRightSketches(t *testing.T) {
	l := rightSketches()
	for i, a := range l {
		if got := impl.SketchMerge(a, impl.Sketch{}); !sameSketch(got, a) {
			t.Fatalf("with the zero one: %+v, want %+v", got, a)
		}
		for _, b := range l {
			both := impl.SketchMerge(a, b)
			if !impl.SketchRight(both) || !sameSketch(both, impl.SketchMerge(b, a)) {
				t.Fatalf("either way round: %+v, %+v", a, b)
			}
			third := l[(i*7+3)%len(l)]
			if !sameSketch(impl.SketchMerge(both, third), impl.SketchMerge(a, impl.SketchMerge(b, third))) {
				t.Fatalf("two of three first: %+v, %+v, %+v", a, b, third)
			}
			put1 := impl.SketchMerge(impl.SketchPut(a, -77777, 3), b)
			put2 := impl.SketchPut(both, -77777, 3)
			if !sameSketch(put1, put2) {
				t.Fatalf("put ahead or behind: %+v, %+v", put1, put2)
			}
		}
	}
}

// fewBins are values of fewer than MaxBins bins on a side, so that none are brought together.
func fewBins(seed uint64) []put {
	s := steps(seed)
	l := []put{{0, 3}}
	for range 9 {
		v := 2 + int64(s.next()%(impl.MaxValue-2))>>(s.next()%59)
		// Near numbers share a bin, or are in the next one.
		for near := range int64(3) {
			l = append(l, put{v - 1 + near/2, 1 + s.next()%4}, put{v / 3 * -2, 1 + s.next()%4})
		}
	}
	return l
}

func inBinOf(got int64, v int64) bool {
	if v == 0 || got == 0 {
		return got == v
	}
	if (got < 0) != (v < 0) {
		return false
	}
	return plainBin(max(got, -got)) == plainBin(max(v, -v))
}

func TestPromise6ValuesOfRanks(t *testing.T) {
	for seed := range uint64(60) {
		l := fewBins(seed)
		s := putAll(impl.Sketch{}, l)
		if len(s.Pos) >= impl.MaxBins || len(s.Neg) >= impl.MaxBins {
			t.Fatalf("seed %d: bins may have been brought together", seed)
		}
		sort.Slice(l, func(i, j int) bool { return l[i].value < l[j].value })
		rank := uint64(0)
		for _, p := range l {
			for range p.weight {
				got := impl.SketchRank(s, rank)
				if !inBinOf(got, p.value) {
					t.Fatalf("seed %d, rank %d: %d is not in the bin of %d", seed, rank, got, p.value)
				}
				rank++
			}
		}
		if rank != impl.SketchWeight(s) {
			t.Fatalf("SketchWeight: %d, want %d", impl.SketchWeight(s), rank)
		}
		if got := impl.SketchRank(s, rank); got != 0 {
			t.Fatalf("a rank that is not below: %d", got)
		}
	}
}

func TestPromise6OfMaxBins(t *testing.T) {
	var s impl.Sketch
	for v := int64(1); v <= impl.MaxBins; v++ {
		s = impl.SketchPut(impl.SketchPut(s, 1000*v, 1), -1000*v, 1)
	}
	for rank := range int64(impl.MaxBins) {
		if got, v := impl.SketchRank(s, uint64(rank)), -1000*(impl.MaxBins-rank); !inBinOf(got, v) {
			t.Errorf("rank %d: %d is not in the bin of %d", rank, got, v)
		}
		if got, v := impl.SketchRank(s, uint64(rank+impl.MaxBins)), 1000*(rank+1); !inBinOf(got, v) {
			t.Errorf("rank %d: %d is not in the bin of %d", rank+impl.MaxBins, got, v)
		}
	}
}

// plainRank counts with big numbers, and looks from the end that the rank is far from.
func plainRank(s impl.Sketch, rank uint64) int64 {
	type step struct {
		value  int64
		weight uint64
	}
	var l []step
	for _, bin := range s.Neg {
		l = append(l, step{-impl.BinLow(bin.At), bin.Weight})
	}
	l = append(l, step{0, s.Zero})
	for _, bin := range s.Pos {
		l = append(l, step{impl.BinLow(bin.At), bin.Weight})
	}
	sort.Slice(l, func(i, j int) bool { return l[i].value < l[j].value })
	for i := range l {
		gone := new(big.Int)
		for _, at := range l[:i+1] {
			gone.Add(gone, new(big.Int).SetUint64(at.weight))
		}
		if bounded(gone) > rank {
			return l[i].value
		}
	}
	return 0
}

func plainWeight(s impl.Sketch) uint64 {
	all := new(big.Int).SetUint64(s.Zero)
	for _, bin := range append(slices.Clone(s.Pos), s.Neg...) {
		all.Add(all, new(big.Int).SetUint64(bin.Weight))
	}
	return bounded(all)
}

func TestSketchWeightAndRank(t *testing.T) {
	for i, s := range rightSketches() {
		weight := plainWeight(s)
		if got := impl.SketchWeight(s); got != weight {
			t.Fatalf("sketch %d: SketchWeight: %d, want %d", i, got, weight)
		}
		ranks := []uint64{0, 1, 2, weight / 3, weight / 2, weight - weight/4, weight - 2, weight - 1, weight, weight + 1, greatestWeight}
		for _, bin := range append(slices.Clone(s.Neg), s.Pos...) {
			ranks = append(ranks, bin.Weight-1, bin.Weight, weight-bin.Weight, weight-bin.Weight-1)
		}
		for _, rank := range ranks {
			want := int64(0)
			if rank < weight {
				want = plainRank(s, rank)
			}
			if got := impl.SketchRank(s, rank); got != want {
				t.Fatalf("sketch %d: SketchRank(%d): %d, want %d", i, rank, got, want)
			}
		}
	}
}

func TestSketchSame(t *testing.T) {
	l := rightSketches()
	for i, a := range l {
		for j, b := range l {
			// The first two differ in none and empty alone.
			want := i == j || i < 2 && j < 2 || sameSketch(a, b)
			if got := impl.SketchSame(a, cloneSketch(b)); got != want {
				t.Errorf("SketchSame of the sketches %d and %d: %v", i, j, got)
			}
		}
	}
	base := impl.Sketch{Zero: 1, Pos: binsFrom(1, 1, 3), Neg: binsFrom(2, 1, 3), Sum: impl.Wide{High: 1, Low: 2}}
	for what, change := range map[string]func(*impl.Sketch){
		"Zero":               func(s *impl.Sketch) { s.Zero = 2 },
		"High":               func(s *impl.Sketch) { s.Sum.High = 0 },
		"Low":                func(s *impl.Sketch) { s.Sum.Low = 0 },
		"an At of Pos":       func(s *impl.Sketch) { s.Pos[2].At = 9 },
		"a Weight of Pos":    func(s *impl.Sketch) { s.Pos[0].Weight = 9 },
		"one Pos fewer":      func(s *impl.Sketch) { s.Pos = s.Pos[:2] },
		"no Pos":             func(s *impl.Sketch) { s.Pos = nil },
		"an At of Neg":       func(s *impl.Sketch) { s.Neg[2].At = 9 },
		"a Weight of Neg":    func(s *impl.Sketch) { s.Neg[0].Weight = 9 },
		"one Neg fewer":      func(s *impl.Sketch) { s.Neg = s.Neg[:2] },
		"one Neg more":       func(s *impl.Sketch) { s.Neg = append(s.Neg, impl.Bin{At: 90, Weight: 1}) },
		"Pos and Neg turned": func(s *impl.Sketch) { s.Pos, s.Neg = s.Neg, s.Pos },
	} {
		other := cloneSketch(base)
		change(&other)
		if impl.SketchSame(base, other) || impl.SketchSame(other, base) {
			t.Errorf("SketchSame with another %s is true", what)
		}
	}
}

// spoil overwrites a list up to its capacity.
func spoil(l []impl.Bin) {
	l = l[:cap(l)]
	for i := range l {
		l[i] = impl.Bin{At: -99, Weight: 99}
	}
}

func TestSketchesAreNewMemory(t *testing.T) {
	given := append(rightSketches(), wrongSketches()["both falling"], wrongSketches()["Neg 31 bins"])
	for i, a := range given {
		b := given[(i*5+2)%len(given)]
		keptA, keptB := cloneSketch(a), cloneSketch(b)
		for _, answer := range []func() impl.Sketch{
			func() impl.Sketch { return impl.SketchPut(a, 300, 1) },
			func() impl.Sketch { return impl.SketchPut(a, -300, 1) },
			func() impl.Sketch { return impl.SketchPut(a, 0, 1) },
			func() impl.Sketch { return impl.SketchPut(a, 5, 0) },
			func() impl.Sketch { return impl.SketchPut(a, impl.MaxValue+1, 1) },
			func() impl.Sketch { return impl.SketchMerge(a, b) },
			func() impl.Sketch { return impl.SketchMerge(a, impl.Sketch{}) },
			func() impl.Sketch { return impl.SketchMerge(impl.Sketch{}, a) },
		} {
			got := answer()
			if !sameSketch(a, keptA) || !sameSketch(b, keptB) {
				t.Fatalf("sketch %d, or what it is brought together with, is changed", i)
			}
			pos := slices.Clone(got.Pos)
			spoil(got.Neg)
			if !slices.Equal(got.Pos, pos) {
				t.Fatalf("sketch %d: Pos and Neg of an answer share memory", i)
			}
			spoil(got.Pos)
			if !sameSketch(a, keptA) || !sameSketch(b, keptB) {
				t.Fatalf("sketch %d: an answer shares memory with what was handed in", i)
			}
		}
	}
}
