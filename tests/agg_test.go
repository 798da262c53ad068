package tests

import (
	"fmt"
	"math"
	"math/big"
	"slices"
	"strings"
	"testing"

	"loop.example/g00309/impl"
)

var allKinds = []int64{impl.Counter, impl.Gauge, impl.Histogram, impl.Set}

var noKinds = []int64{0, -1, 5, 257, 1 << 32, math.MinInt64, math.MaxInt64}

func sameAgg(a impl.Agg, b impl.Agg) bool {
	if a.Kind != b.Kind || a.Samples != b.Samples || a.Sum != b.Sum || a.Last != b.Last || a.LastAt != b.LastAt {
		return false
	}
	return sameSketch(a.Sketch, b.Sketch) && sameHll(a.Hll, b.Hll)
}

func isZeroAgg(a impl.Agg) bool {
	return sameAgg(a, impl.Agg{})
}

func cloneAgg(a impl.Agg) impl.Agg {
	a.Sketch, a.Hll = cloneSketch(a.Sketch), cloneHll(a.Hll)
	return a
}

func nothingOf(kind int64) impl.Agg {
	a := impl.Agg{Kind: kind}
	if kind == impl.Gauge {
		a.LastAt = -1
	}
	return a
}

// plainAgg has all samples at hand at once, apart from the program's way.
func plainAgg(kind int64, l []impl.Sample) impl.Agg {
	a := nothingOf(kind)
	a.Samples = uint64(len(l))
	sum := new(big.Int)
	var puts []put
	var hashes []uint64
	for _, x := range l {
		sum.Add(sum, new(big.Int).Mul(big.NewInt(x.Value), new(big.Int).SetUint64(x.Weight)))
		puts = append(puts, put{x.Value, x.Weight})
		hashes = append(hashes, libraryHash(x.Word))
	}
	switch kind {
	case impl.Counter:
		a.Sum = wideOfBig(sum)
	case impl.Gauge:
		a.Last, a.LastAt = plainLast(l)
	case impl.Histogram:
		a.Sketch = plainSketch(puts)
	case impl.Set:
		a.Hll = plainHll(hashes)
	}
	return a
}

// plainLast asks for the latest time first, and then for the greatest value of that time.
func plainLast(l []impl.Sample) (int64, int64) {
	latest := int64(-1)
	for _, x := range l {
		latest = max(latest, x.Time)
	}
	var values []int64
	for _, x := range l {
		if x.Time == latest {
			values = append(values, x.Value)
		}
	}
	if len(values) == 0 {
		return 0, latest
	}
	return slices.Max(values), latest
}

func putSamples(a impl.Agg, l []impl.Sample) impl.Agg {
	for _, x := range l {
		a = impl.AggPut(a, x)
	}
	return a
}

// someSamples are of few times, so that some are alike, and of near values and far ones.
func someSamples(kind int64, seed uint64, many int) []impl.Sample {
	s := steps(seed*31 + uint64(kind))
	var l []impl.Sample
	for range many {
		x := impl.Sample{Kind: kind, Series: "hits{a:1}", Weight: 1}
		if kind == impl.Set {
			x.Word = fmt.Sprintf("u%d", s.next()%uint64(many+1))
		} else {
			x.Value = int64(s.next()%(impl.MaxValue+1)) >> (s.next() % 61)
			if s.next()%2 == 0 {
				x.Value = -x.Value
			}
		}
		if kind == impl.Counter || kind == impl.Histogram {
			x.Weight = []uint64{1, 2, 1000000, 1 + s.next()%1000000}[s.next()%4]
		}
		if s.next()%3 > 0 {
			x.Timed, x.Time = true, int64(s.next()%4)*(greatestTime/3)
		}
		l = append(l, x)
	}
	return l
}

// wordSamples are so many different words.
func wordSamples(many int) []impl.Sample {
	var l []impl.Sample
	for i := range many {
		l = append(l, impl.Sample{Kind: impl.Set, Series: "users{}", Word: fmt.Sprintf("w%d", i), Weight: 1})
	}
	return l
}

// binSamples are of so many different bins on either side of 0, and of 0.
func binSamples(many int) []impl.Sample {
	l := []impl.Sample{{Kind: impl.Histogram, Series: "took{}", Weight: 3}}
	for i := range int64(many) {
		l = append(l, impl.Sample{Kind: impl.Histogram, Series: "took{}", Value: 100 + i, Weight: 1 + uint64(i)})
		l = append(l, impl.Sample{Kind: impl.Histogram, Series: "took{}", Value: -200 - i, Weight: 1000000})
	}
	return l
}

func gaugeSample(value int64, when int64) impl.Sample {
	return impl.Sample{Kind: impl.Gauge, Series: "level{}", Value: value, Weight: 1, Timed: true, Time: when}
}

func rightGauges() []impl.Agg {
	l := []impl.Agg{
		{Kind: impl.Gauge, LastAt: -1},
		{Kind: impl.Gauge, LastAt: -1, Samples: 1},
		{Kind: impl.Gauge, LastAt: -1, Samples: greatestWeight},
	}
	for _, when := range []int64{0, 1, 7, greatestTime - 1, greatestTime} {
		for _, v := range []int64{0, 1, -1, 2500000, impl.MaxValue, -impl.MaxValue} {
			l = append(l, impl.Agg{Kind: impl.Gauge, Samples: 3, Last: v, LastAt: when})
		}
	}
	return l
}

// rightAggs are of each kind, at the edges of what is right.
func rightAggs() []impl.Agg {
	l := rightGauges()
	for _, samples := range []uint64{0, 1, 2, greatestWeight - 1, greatestWeight} {
		l = append(l, impl.Agg{Kind: impl.Gauge, Samples: samples, Last: 5, LastAt: 9})
		for _, sum := range []impl.Wide{{}, {Low: 1}, {High: -1, Low: greatestWeight}, {High: math.MinInt64}, {High: math.MaxInt64, Low: greatestWeight}} {
			l = append(l, impl.Agg{Kind: impl.Counter, Samples: samples, Sum: sum})
		}
		l = append(l, impl.Agg{Kind: impl.Histogram, Samples: samples}, impl.Agg{Kind: impl.Set, Samples: samples})
	}
	for i, sketch := range rightSketches() {
		l = append(l, impl.Agg{Kind: impl.Histogram, Samples: uint64(i), Sketch: sketch})
	}
	for i, hll := range rightHlls() {
		l = append(l, impl.Agg{Kind: impl.Set, Samples: uint64(i), Hll: hll})
	}
	for _, kind := range allKinds {
		a := nothingOf(kind)
		a.Sketch = impl.Sketch{Pos: []impl.Bin{}, Neg: []impl.Bin{}}
		a.Hll = impl.Hll{Exact: []uint64{}, Regs: []int64{}}
		l = append(l, nothingOf(kind), a, plainAgg(kind, someSamples(kind, 1, 90)))
	}
	return l
}

// usedBy is a field that one kind alone uses, and how it comes to be other than zero.
type usedBy struct {
	kind int64
	put  func(*impl.Agg)
}

func usedFields() map[string]usedBy {
	return map[string]usedBy{
		"the Sum's Low":   {impl.Counter, func(a *impl.Agg) { a.Sum.Low = 1 }},
		"the Sum's High":  {impl.Counter, func(a *impl.Agg) { a.Sum.High = -1 }},
		"Last 1":          {impl.Gauge, func(a *impl.Agg) { a.Last = 1 }},
		"Last -1":         {impl.Gauge, func(a *impl.Agg) { a.Last = -1 }},
		"LastAt 1":        {impl.Gauge, func(a *impl.Agg) { a.LastAt = 1 }},
		"LastAt -1":       {impl.Gauge, func(a *impl.Agg) { a.LastAt = -1 }},
		"LastAt at most":  {impl.Gauge, func(a *impl.Agg) { a.LastAt = greatestTime }},
		"a Zero":          {impl.Histogram, func(a *impl.Agg) { a.Sketch.Zero = 1 }},
		"a Pos":           {impl.Histogram, func(a *impl.Agg) { a.Sketch.Pos = binsFrom(1, 1, 1) }},
		"a Neg":           {impl.Histogram, func(a *impl.Agg) { a.Sketch.Neg = binsFrom(1, 1, 1) }},
		"a sketch's Low":  {impl.Histogram, func(a *impl.Agg) { a.Sketch.Sum.Low = 1 }},
		"a sketch's High": {impl.Histogram, func(a *impl.Agg) { a.Sketch.Sum.High = 1 }},
		"a hash":          {impl.Set, func(a *impl.Agg) { a.Hll.Exact = []uint64{0} }},
		"registers":       {impl.Set, func(a *impl.Agg) { a.Hll.Regs = allRegs(1) }},
		"registers of 0":  {impl.Set, func(a *impl.Agg) { a.Hll.Regs = allRegs(0) }},
		"too few of Regs": {impl.Set, func(a *impl.Agg) { a.Hll.Regs = []int64{0} }},
		"a falling Exact": {impl.Set, func(a *impl.Agg) { a.Hll.Exact = []uint64{2, 1} }},
		"a Weight of 0":   {impl.Histogram, func(a *impl.Agg) { a.Sketch.Pos = []impl.Bin{{At: 1}} }},
	}
}

// wrongAggs have one fault each.
func wrongAggs() map[string]impl.Agg {
	m := map[string]impl.Agg{"the zero Agg": {}}
	for _, kind := range noKinds {
		m[fmt.Sprintf("Kind %d", kind)] = impl.Agg{Kind: kind, Samples: 1}
	}
	for what, sketch := range wrongSketches() {
		m["a sketch: "+what] = impl.Agg{Kind: impl.Histogram, Samples: 2, Sketch: sketch}
	}
	for what, hll := range wrongHlls() {
		m["a Hll: "+what] = impl.Agg{Kind: impl.Set, Samples: 2, Hll: hll}
	}
	for _, kind := range allKinds {
		for what, field := range usedFields() {
			if field.kind == kind {
				continue
			}
			for _, samples := range []uint64{0, 1} {
				a := plainAgg(kind, someSamples(kind, 2, int(samples)*5))
				field.put(&a)
				m[fmt.Sprintf("%s beside the Kind %d and %d samples", what, kind, a.Samples)] = a
			}
		}
	}
	for _, when := range []int64{-2, -1000, math.MinInt64, greatestTime + 1, 1 << 32, math.MaxInt64} {
		m[fmt.Sprintf("LastAt %d", when)] = impl.Agg{Kind: impl.Gauge, Samples: 1, LastAt: when}
		m[fmt.Sprintf("LastAt %d with a Last", when)] = impl.Agg{Kind: impl.Gauge, Samples: 1, Last: 5, LastAt: when}
	}
	for _, v := range []int64{1, -1, impl.MaxValue, -impl.MaxValue} {
		m[fmt.Sprintf("Last %d without a time", v)] = impl.Agg{Kind: impl.Gauge, Samples: 1, Last: v, LastAt: -1}
	}
	for _, v := range []int64{impl.MaxValue + 1, -impl.MaxValue - 1, math.MaxInt64, math.MinInt64} {
		for _, when := range []int64{-1, 0, greatestTime} {
			m[fmt.Sprintf("Last %d at %d", v, when)] = impl.Agg{Kind: impl.Gauge, Samples: 1, Last: v, LastAt: when}
		}
	}
	return m
}

func TestAggNew(t *testing.T) {
	for _, kind := range allKinds {
		if got := impl.AggNew(kind); !sameAgg(got, nothingOf(kind)) || !impl.AggRight(got) {
			t.Errorf("AggNew(%d): %+v", kind, got)
		}
	}
	for _, kind := range noKinds {
		if got := impl.AggNew(kind); !isZeroAgg(got) {
			t.Errorf("AggNew(%d): %+v, want the zero one", kind, got)
		}
	}
}

func TestAggRight(t *testing.T) {
	for _, a := range rightAggs() {
		if !impl.AggRight(a) {
			t.Errorf("AggRight(%+v): false", a)
		}
	}
}

func TestWrongAggs(t *testing.T) {
	right := rightAggs()
	samples := slices.Concat(rightSamples()[:60], wordSamples(2), binSamples(2), []impl.Sample{gaugeSample(3, 5), gaugeSample(3, greatestTime)})
	for what, a := range wrongAggs() {
		kept := cloneAgg(a)
		if impl.AggRight(a) {
			t.Errorf("%s: right", what)
		}
		for _, x := range samples {
			if got := impl.AggPut(a, x); !sameAgg(got, kept) {
				t.Errorf("%s: AggPut of %+v: %+v, want it as it is", what, x, got)
			}
		}
		for _, b := range append(right, a, nothingOf(a.Kind)) {
			if got := impl.AggMerge(a, b); !isZeroAgg(got) {
				t.Errorf("%s: AggMerge with %+v: %+v, want the zero one", what, b, got)
			}
			if got := impl.AggMerge(b, a); !isZeroAgg(got) {
				t.Errorf("%s: AggMerge of %+v with it: %+v, want the zero one", what, b, got)
			}
		}
		if !sameAgg(a, kept) {
			t.Errorf("%s: it is changed", what)
		}
	}
}

func TestAggPut(t *testing.T) {
	counter := putSamples(impl.AggNew(impl.Counter), []impl.Sample{
		{Kind: impl.Counter, Series: "a{}", Value: 3, Weight: 2},
		{Kind: impl.Counter, Series: "b{c}", Value: -5, Weight: 1, Timed: true, Time: 9},
		{Kind: impl.Counter, Series: "a{}", Value: impl.MaxValue, Weight: 1000000},
	})
	most := new(big.Int).Mul(big.NewInt(impl.MaxValue), big.NewInt(1000000))
	if want := (impl.Agg{Kind: impl.Counter, Samples: 3, Sum: wideOfBig(most.Add(most, big.NewInt(1)))}); !sameAgg(counter, want) {
		t.Errorf("a Counter: %+v, want %+v", counter, want)
	}
	histogram := putSamples(impl.AggNew(impl.Histogram), []impl.Sample{
		{Kind: impl.Histogram, Series: "a{}", Value: 257, Weight: 2},
		{Kind: impl.Histogram, Series: "a{}", Value: 0, Weight: 4, Timed: true, Time: 9},
		{Kind: impl.Histogram, Series: "a{}", Value: -5, Weight: 1000000},
		{Kind: impl.Histogram, Series: "a{}", Value: 256, Weight: 1},
	})
	sketch := impl.Sketch{Zero: 4, Pos: []impl.Bin{{At: 256, Weight: 3}}, Neg: []impl.Bin{{At: 5, Weight: 1000000}}, Sum: impl.WideOf(2*257 + 256 - 5000000)}
	if want := (impl.Agg{Kind: impl.Histogram, Samples: 4, Sketch: sketch}); !sameAgg(histogram, want) {
		t.Errorf("a Histogram: %+v, want %+v", histogram, want)
	}
	set := putSamples(impl.AggNew(impl.Set), append(wordSamples(2), wordSamples(2)...))
	hashes := []uint64{libraryHash("w0"), libraryHash("w1")}
	slices.Sort(hashes)
	if want := (impl.Agg{Kind: impl.Set, Samples: 4, Hll: impl.Hll{Exact: hashes}}); !sameAgg(set, want) {
		t.Errorf("a Set: %+v, want %+v", set, want)
	}
}

func TestAggPutOfGauges(t *testing.T) {
	for _, c := range []struct {
		what     string
		last, at int64
		value    int64
		when     int64
		wantLast int64
		wantAt   int64
	}{
		{"the first, at 0", 0, -1, -7, 0, -7, 0},
		{"the first, of 0", 0, -1, 0, 0, 0, 0},
		{"the first, at the end", 0, -1, 7, greatestTime, 7, greatestTime},
		{"later and less", 9, 4, 3, 5, 3, 5},
		{"later and greater", 3, 4, 9, 5, 9, 5},
		{"later and alike", 3, 4, 3, 5, 3, 5},
		{"earlier and greater", 3, 5, 9, 4, 3, 5},
		{"earlier and less", 9, 5, 3, 4, 9, 5},
		{"at that time and greater", 3, 5, 4, 5, 4, 5},
		{"at that time and less", 3, 5, 2, 5, 3, 5},
		{"at that time and alike", 3, 5, 3, 5, 3, 5},
		{"at that time, the greater one below 0", -5, 0, -4, 0, -4, 0},
		{"at that time, the lesser one below 0", -4, 0, -5, 0, -4, 0},
		{"at the end, from least to most", -impl.MaxValue, greatestTime, impl.MaxValue, greatestTime, impl.MaxValue, greatestTime},
	} {
		a := impl.Agg{Kind: impl.Gauge, Samples: 1, Last: c.last, LastAt: c.at}
		want := impl.Agg{Kind: impl.Gauge, Samples: 2, Last: c.wantLast, LastAt: c.wantAt}
		if got := impl.AggPut(a, gaugeSample(c.value, c.when)); !sameAgg(got, want) {
			t.Errorf("%s: AggPut: %+v, want %+v", c.what, got, want)
		}
		b := impl.Agg{Kind: impl.Gauge, Samples: 1, Last: c.value, LastAt: c.when}
		if got := impl.AggMerge(a, b); !sameAgg(got, want) {
			t.Errorf("%s: AggMerge: %+v, want %+v", c.what, got, want)
		}
		if got := impl.AggMerge(b, a); !sameAgg(got, want) {
			t.Errorf("%s: AggMerge the other way round: %+v, want %+v", c.what, got, want)
		}
	}
	// A sample without a time of its own stands at 0.
	untimed := impl.Sample{Kind: impl.Gauge, Series: "level{}", Value: 8, Weight: 1}
	if got := impl.AggPut(impl.AggNew(impl.Gauge), untimed); got.Last != 8 || got.LastAt != 0 || got.Samples != 1 {
		t.Errorf("a sample that is not Timed: %+v", got)
	}
}

func TestAggPutOfWhatIsWrong(t *testing.T) {
	wrong := wrongSamples()
	for _, a := range rightAggs() {
		kept := cloneAgg(a)
		for what, x := range wrong {
			if got := impl.AggPut(a, x); !sameAgg(got, kept) {
				t.Fatalf("%s: AggPut into %+v: %+v, want it as it is", what, kept, got)
			}
			// Of the Agg's own Kind a sample may have another fault, or none.
			x.Kind = a.Kind
			if got := impl.AggPut(a, x); !impl.SampleRight(x) && !sameAgg(got, kept) {
				t.Fatalf("%s, of its Kind: AggPut into %+v: %+v, want it as it is", what, kept, got)
			}
		}
		for _, kind := range allKinds {
			for _, x := range someSamples(kind, 3, 5) {
				if got := impl.AggPut(a, x); kind != a.Kind && !sameAgg(got, kept) {
					t.Fatalf("a sample of the Kind %d into %+v: %+v, want it as it is", kind, kept, got)
				}
			}
		}
	}
}

func TestAggMerge(t *testing.T) {
	for _, kind := range allKinds {
		for seed := range uint64(12) {
			l := someSamples(kind, seed, 10+int(seed)*9)
			at := len(l) * int(seed) / 12
			a, b := plainAgg(kind, l[:at]), plainAgg(kind, l[at:])
			if got, want := impl.AggMerge(a, b), plainAgg(kind, l); !sameAgg(got, want) {
				t.Errorf("Kind %d, %d and %d samples: %+v, want %+v", kind, at, len(l)-at, got, want)
			}
		}
	}
}

func TestAggMergeOfUnlikeKinds(t *testing.T) {
	l := rightAggs()
	for _, a := range l {
		for _, b := range l {
			if got := impl.AggMerge(a, b); a.Kind != b.Kind && !isZeroAgg(got) {
				t.Fatalf("AggMerge of %+v and %+v: %+v, want the zero one", a, b, got)
			}
		}
	}
}

func TestSamplesAndSumsAtTheirGreatest(t *testing.T) {
	for _, kind := range allKinds {
		x := someSamples(kind, 4, 1)[0]
		for _, samples := range []uint64{0, greatestWeight - 2, greatestWeight - 1, greatestWeight} {
			a := nothingOf(kind)
			a.Samples = samples
			want := samples
			if samples < greatestWeight {
				want++
			}
			if got := impl.AggPut(a, x); got.Samples != want {
				t.Errorf("Kind %d: one more than %d Samples: %d", kind, samples, got.Samples)
			}
			for _, more := range []uint64{0, 1, 2, 1 << 63, greatestWeight} {
				b := nothingOf(kind)
				b.Samples = more
				all := new(big.Int).Add(new(big.Int).SetUint64(samples), new(big.Int).SetUint64(more))
				if got := impl.AggMerge(a, b); got.Samples != bounded(all) {
					t.Errorf("Kind %d: %d and %d Samples: %d", kind, samples, more, got.Samples)
				}
			}
		}
	}
	for _, sum := range edgeWides() {
		a := impl.Agg{Kind: impl.Counter, Sum: sum}
		for _, weight := range []uint64{1, 1000000} {
			for _, v := range []int64{1, -1, impl.MaxValue, -impl.MaxValue} {
				product := new(big.Int).Mul(big.NewInt(v), new(big.Int).SetUint64(weight))
				got := impl.AggPut(a, impl.Sample{Kind: impl.Counter, Series: "a{}", Value: v, Weight: weight})
				wantWide(t, "AggPut", got.Sum, wrapped(product.Add(product, bigOf(sum))))
			}
		}
		for _, other := range edgeWides() {
			got := impl.AggMerge(a, impl.Agg{Kind: impl.Counter, Sum: other})
			wantWide(t, "AggMerge", got.Sum, wrapped(new(big.Int).Add(bigOf(sum), bigOf(other))))
		}
	}
}

// mergedSamples parts a list anywhere, brings the parts together in either order, and puts some samples
// ahead of that and some behind; that of nothing comes in between now and then.
func mergedSamples(kind int64, l []impl.Sample, s *steps) impl.Agg {
	if len(l) < 2 || s.next()%6 == 0 {
		return putSamples(impl.AggNew(kind), l)
	}
	behind := int(s.next() % uint64(min(len(l), 4)))
	l, last := l[behind:], l[:behind]
	at := int(s.next() % uint64(len(l)+1))
	a, b := mergedSamples(kind, l[:at], s), mergedSamples(kind, l[at:], s)
	switch s.next() % 4 {
	case 0:
		a, b = b, a
	case 1:
		a = impl.AggMerge(impl.AggNew(kind), a)
	}
	return putSamples(impl.AggMerge(a, b), last)
}

func sampleLists(kind int64) [][]impl.Sample {
	l := [][]impl.Sample{nil}
	for seed, many := range []int{1, 2, 3, 5, 10, 20, 40, 80, 150} {
		l = append(l, someSamples(kind, uint64(seed), many))
	}
	switch kind {
	case impl.Gauge:
		var alike []impl.Sample
		for i := range int64(12) {
			alike = append(alike, gaugeSample(i%3-1, i/3*(greatestTime/3)), gaugeSample(-i%4, 0))
		}
		l = append(l, alike, alike[:6])
	case impl.Histogram:
		for _, many := range []int{impl.MaxBins - 1, impl.MaxBins, impl.MaxBins + 1, 2 * impl.MaxBins} {
			l = append(l, binSamples(many))
		}
	case impl.Set:
		for _, many := range []int{impl.MaxExact - 1, impl.MaxExact, impl.MaxExact + 1, 2 * impl.MaxExact} {
			l = append(l, wordSamples(many), append(wordSamples(many), wordSamples(many/2)...))
		}
	}
	return l
}

func TestPromise12AnyOrder(t *testing.T) {
	for _, kind := range allKinds {
		for i, l := range sampleLists(kind) {
			want := plainAgg(kind, l)
			for seed := range uint64(6) {
				got := putSamples(impl.AggNew(kind), shuffled(l, seed))
				if !sameAgg(got, want) || !impl.AggSame(got, want) || !impl.AggRight(got) {
					t.Fatalf("Kind %d, list %d, order %d: %+v, want %+v", kind, i, seed, got, want)
				}
			}
		}
	}
}

func TestPromise12BroughtTogether(t *testing.T) {
	for _, kind := range allKinds {
		for i, l := range sampleLists(kind) {
			want := plainAgg(kind, l)
			for seed := range uint64(12) {
				s := steps(seed + 200)
				got := mergedSamples(kind, shuffled(l, seed), &s)
				if !sameAgg(got, want) || !impl.AggSame(got, want) || !impl.AggRight(got) {
					t.Fatalf("Kind %d, list %d, parts %d: %+v, want %+v", kind, i, seed, got, want)
				}
			}
		}
	}
}

func aggsOf(kind int64) []impl.Agg {
	return slices.DeleteFunc(rightAggs(), func(a impl.Agg) bool { return a.Kind != kind })
}

// TestPromise12AnyRightAggs takes also those that no samples come to.
func TestPromise12AnyRightAggs(t *testing.T) {
	for _, kind := range allKinds {
		l := aggsOf(kind)
		samples := someSamples(kind, 5, 4)
		for i, a := range l {
			for _, none := range []impl.Agg{impl.AggMerge(a, impl.AggNew(kind)), impl.AggMerge(impl.AggNew(kind), a)} {
				if !sameAgg(none, a) {
					t.Fatalf("with that of nothing: %+v, want %+v", none, a)
				}
			}
			for j, b := range l {
				both := impl.AggMerge(a, b)
				if !impl.AggRight(both) || !sameAgg(both, impl.AggMerge(b, a)) {
					t.Fatalf("either way round: %+v, %+v: %+v", a, b, both)
				}
				third := l[(i*7+j*3)%len(l)]
				if !sameAgg(impl.AggMerge(both, third), impl.AggMerge(a, impl.AggMerge(b, third))) {
					t.Fatalf("two of three first: %+v, %+v, %+v", a, b, third)
				}
				behind := putSamples(both, samples)
				for _, ahead := range []impl.Agg{
					impl.AggMerge(putSamples(a, samples), b),
					impl.AggMerge(putSamples(a, samples[:2]), putSamples(b, samples[2:])),
					impl.AggMerge(a, putSamples(b, shuffled(samples, 9))),
				} {
					if !sameAgg(ahead, behind) || !impl.AggRight(ahead) {
						t.Fatalf("put ahead or behind: %+v, %+v", ahead, behind)
					}
				}
			}
		}
	}
}

func TestAggSame(t *testing.T) {
	l := rightAggs()
	for i, a := range l {
		for j, b := range l {
			if got, want := impl.AggSame(a, cloneAgg(b)), sameAgg(a, b); got != want {
				t.Errorf("AggSame of the Aggs %d and %d: %v", i, j, got)
			}
		}
	}
	base := impl.Agg{
		Kind: impl.Counter, Samples: 3, Sum: impl.Wide{High: 1, Low: 2}, Last: 4, LastAt: 5,
		Sketch: impl.Sketch{Zero: 6, Pos: binsFrom(1, 1, 3), Neg: binsFrom(2, 1, 3), Sum: impl.Wide{High: 7, Low: 8}},
		Hll:    impl.Hll{Exact: []uint64{9}, Regs: allRegs(1)},
	}
	if !impl.AggSame(base, cloneAgg(base)) {
		t.Errorf("AggSame of two alike is false")
	}
	for what, change := range map[string]func(*impl.Agg){
		"Kind":          func(a *impl.Agg) { a.Kind = impl.Set },
		"Samples":       func(a *impl.Agg) { a.Samples = 4 },
		"High":          func(a *impl.Agg) { a.Sum.High = 0 },
		"Low":           func(a *impl.Agg) { a.Sum.Low = 0 },
		"Last":          func(a *impl.Agg) { a.Last = -4 },
		"LastAt":        func(a *impl.Agg) { a.LastAt = -1 },
		"Zero":          func(a *impl.Agg) { a.Sketch.Zero = 0 },
		"Pos":           func(a *impl.Agg) { a.Sketch.Pos[2].Weight = 9 },
		"Neg":           func(a *impl.Agg) { a.Sketch.Neg = nil },
		"sketch's Sum":  func(a *impl.Agg) { a.Sketch.Sum.Low = 9 },
		"Exact":         func(a *impl.Agg) { a.Hll.Exact[0] = 8 },
		"last register": func(a *impl.Agg) { a.Hll.Regs[impl.Regs-1] = 2 },
		"Regs, none":    func(a *impl.Agg) { a.Hll.Regs = nil },
		"one hash more": func(a *impl.Agg) { a.Hll.Exact = []uint64{9, 10} },
	} {
		other := cloneAgg(base)
		change(&other)
		if impl.AggSame(base, other) || impl.AggSame(other, base) {
			t.Errorf("AggSame with another %s is true", what)
		}
	}
}

// spoilAgg overwrites an answer's lists up to their capacity, one after the other, and tells whether two
// of them share memory.
func spoilAgg(a impl.Agg) bool {
	pos, neg := slices.Clone(a.Sketch.Pos), slices.Clone(a.Sketch.Neg)
	spoilHll(a.Hll)
	shared := !slices.Equal(pos, a.Sketch.Pos)
	spoil(a.Sketch.Pos)
	shared = shared || !slices.Equal(neg, a.Sketch.Neg)
	spoil(a.Sketch.Neg)
	return shared
}

func TestAggsAreNewMemory(t *testing.T) {
	given := rightAggs()
	for what, a := range wrongAggs() {
		if strings.Contains(what, "falling") || strings.Contains(what, "samples") {
			given = append(given, a)
		}
	}
	for i, a := range given {
		for _, b := range []impl.Agg{given[(i+1)%len(given)], nothingOf(a.Kind), a} {
			keptA, keptB := cloneAgg(a), cloneAgg(b)
			answers := []impl.Agg{impl.AggMerge(a, b), impl.AggMerge(b, a), impl.AggPut(a, impl.Sample{})}
			for _, kind := range allKinds {
				for _, x := range someSamples(kind, 6, 3) {
					answers = append(answers, impl.AggPut(a, x))
				}
			}
			for _, got := range answers {
				if spoilAgg(got) {
					t.Fatalf("Agg %d: two lists of an answer share memory", i)
				}
			}
			if !sameAgg(a, keptA) || !sameAgg(b, keptB) {
				t.Fatalf("Agg %d, or what it is brought together with, is changed or shared", i)
			}
		}
	}
}

func TestAggsWithRoomBehind(t *testing.T) {
	// Room behind a list belongs to whoever handed it in.
	bins, hashes := binsFrom(1, 3, 20), countingHashes(30)
	a := impl.Agg{Kind: impl.Histogram, Sketch: impl.Sketch{Pos: bins[:5], Neg: bins[10:15]}}
	b := impl.Agg{Kind: impl.Set, Hll: impl.Hll{Exact: hashes[:10]}}
	for i, x := range append(binSamples(3), wordSamples(3)...) {
		impl.AggPut(a, x)
		impl.AggPut(b, x)
		impl.AggMerge(a, plainAgg(impl.Histogram, binSamples(i)))
		impl.AggMerge(b, plainAgg(impl.Set, wordSamples(i)))
	}
	if !slices.Equal(bins, binsFrom(1, 3, 20)) || !slices.Equal(hashes, countingHashes(30)) {
		t.Errorf("the room behind a list is written: %v, %v", bins, hashes)
	}
}

func TestAggsKeepNothing(t *testing.T) {
	for _, a := range rightAggs() {
		x := someSamples(a.Kind, 7, 1)[0]
		first, merged := impl.AggPut(a, x), impl.AggMerge(a, a)
		if !sameAgg(first, impl.AggPut(a, x)) || !sameAgg(merged, impl.AggMerge(a, a)) {
			t.Fatalf("%+v: a call that comes again tells something else", a)
		}
	}
}
