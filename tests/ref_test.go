package tests

import (
	"fmt"
	"slices"
	"strings"
	"testing"

	"loop.example/g00309/impl"
)

func stampedOf(l []placed) []impl.Stamped {
	var stamped []impl.Stamped
	for _, p := range l {
		stamped = append(stamped, impl.Stamped{Window: p.window, Sample: p.sample})
	}
	return stamped
}

func wantCells(t *testing.T, what string, got impl.CellsOut, cells []impl.Cell) {
	t.Helper()
	if got.Code != impl.OK || !sameCells(got.Cells, cells) || !impl.CellsRight(got.Cells) {
		t.Fatalf("%s: %+v, want the cells %+v", what, got, cells)
	}
}

func wantRefused(t *testing.T, what string, l []impl.Stamped, code int64) {
	t.Helper()
	if got := impl.CellsOf(l); got.Code != code || len(got.Cells) != 0 {
		t.Errorf("%s: code %d and %d cells, want the code %d and none", what, got.Code, len(got.Cells), code)
	}
}

// putEach puts a sample into each of so many cells, those that cellsFrom has of the same numbers.
func putEach(first int, many int) []placed {
	var l []placed
	for _, c := range cellsFrom(first, many) {
		l = append(l, placed{c.Window, sampleOf(c.Agg.Kind, c.Series, 1)})
	}
	return l
}

// placedLists have samples of all kinds, and of each kind those at the edges of what an Agg keeps as it is.
func placedLists() [][]placed {
	l := [][]placed{nil, putEach(0, 1), putEach(0, impl.MaxCells-1), putEach(0, impl.MaxCells)}
	for seed, many := range []int{2, 3, 7, 30, 100, 250, impl.MaxList} {
		l = append(l, somePlaced(uint64(seed)+50, many))
	}
	var all []placed
	for _, kind := range allKinds {
		for _, samples := range sampleLists(kind) {
			var own []placed
			for i, x := range samples {
				own = append(own, placed{[]int64{0, greatestWindow, 0, 0}[i%4], x})
			}
			l = append(l, own)
			all = append(all, own[:min(len(own), 8)]...)
		}
	}
	// Those of unlike kinds stand in windows of their own, since some of them have one Series.
	for i := range all {
		all[i].window = all[i].sample.Kind
	}
	return append(l, all)
}

func TestCellsOf(t *testing.T) {
	counter := impl.Sample{Kind: impl.Counter, Series: "hits{}", Value: 3, Weight: 2}
	gauge := impl.Sample{Kind: impl.Gauge, Series: "level{}", Value: -5, Weight: 1}
	later := impl.Sample{Kind: impl.Gauge, Series: "level{}", Value: -9, Weight: 1, Timed: true, Time: 70}
	took := impl.Sample{Kind: impl.Histogram, Series: "took{a}", Value: 257, Weight: 4}
	nought := impl.Sample{Kind: impl.Histogram, Series: "took{a}", Weight: 1}
	below := impl.Sample{Kind: impl.Histogram, Series: "took{a}", Value: -7, Weight: 2}
	ann := impl.Sample{Kind: impl.Set, Series: "users{}", Word: "ann", Weight: 1}
	got := impl.CellsOf([]impl.Stamped{
		{Window: 10, Sample: counter},
		{Window: 9, Sample: ann},
		{Window: 9, Sample: later},
		{Window: 10, Sample: took},
		{Window: 9, Sample: counter},
		{Window: 9, Sample: gauge},
		{Window: 10, Sample: below},
		{Window: 9, Sample: ann},
		{Window: 10, Sample: nought},
		{Window: 9, Sample: counter},
	})
	sketch := impl.Sketch{Zero: 1, Pos: []impl.Bin{{At: 256, Weight: 4}}, Neg: []impl.Bin{{At: 7, Weight: 2}}, Sum: impl.WideOf(4*257 - 2*7)}
	wantCells(t, "ten samples", got, []impl.Cell{
		{Window: 9, Series: "hits{}", Agg: impl.Agg{Kind: impl.Counter, Samples: 2, Sum: impl.WideOf(12)}},
		{Window: 9, Series: "level{}", Agg: impl.Agg{Kind: impl.Gauge, Samples: 2, Last: -9, LastAt: 70}},
		{Window: 9, Series: "users{}", Agg: impl.Agg{Kind: impl.Set, Samples: 2, Hll: impl.Hll{Exact: []uint64{libraryHash("ann")}}}},
		{Window: 10, Series: "hits{}", Agg: impl.Agg{Kind: impl.Counter, Samples: 1, Sum: impl.WideOf(6)}},
		{Window: 10, Series: "took{a}", Agg: impl.Agg{Kind: impl.Histogram, Samples: 3, Sketch: sketch}},
	})
}

func TestCellsOfNoSamples(t *testing.T) {
	for _, l := range [][]impl.Stamped{nil, {}, make([]impl.Stamped, 0, 9)} {
		wantCells(t, "no samples", impl.CellsOf(l), nil)
	}
}

func TestCellsOfOneAlone(t *testing.T) {
	for _, window := range []int64{0, 1, greatestWindow - 1, greatestWindow} {
		for _, x := range rightSamples() {
			got := impl.CellsOf([]impl.Stamped{{Window: window, Sample: x}})
			wantCells(t, fmt.Sprintf("%+v at %d", x, window), got, plainCells([]placed{{window, x}}))
		}
	}
}

// TestCellsOfAsShardPut holds each beginning of a list against a Shard that is put to sample by sample.
func TestCellsOfAsShardPut(t *testing.T) {
	for seed, name := range []string{"a", "z.0_", strings.Repeat("z", 40)} {
		l := somePlaced(uint64(seed)+80, 60)
		s := impl.Shard{Name: name}
		for i := range l {
			s = putPlaced(t, s, l[i:i+1])
			wantCells(t, fmt.Sprintf("the first %d samples", i+1), impl.CellsOf(stampedOf(l[:i+1])), s.Cells)
		}
	}
}

func TestPromise15AnyOrder(t *testing.T) {
	for i, l := range placedLists() {
		want := plainCells(l)
		back := slices.Clone(l)
		slices.Reverse(back)
		wantCells(t, fmt.Sprintf("list %d as it is", i), impl.CellsOf(stampedOf(l)), want)
		wantCells(t, fmt.Sprintf("list %d from its end on", i), impl.CellsOf(stampedOf(back)), want)
		for order := range uint64(4) {
			got := impl.CellsOf(stampedOf(shuffled(l, order)))
			wantCells(t, fmt.Sprintf("list %d, order %d", i, order), got, want)
			if !impl.CellsSame(got.Cells, want) {
				t.Fatalf("list %d, order %d: CellsSame is false", i, order)
			}
		}
	}
}

// cellsInParts parts a list anywhere, and brings the cells of the parts together either way round.
func cellsInParts(t *testing.T, l []placed, s *steps) []impl.Cell {
	t.Helper()
	if len(l) < 2 || s.next()%6 == 0 {
		got := impl.CellsOf(stampedOf(l))
		wantCells(t, "a part", got, plainCells(l))
		return got.Cells
	}
	at := int(s.next() % uint64(len(l)+1))
	a, b := cellsInParts(t, l[:at], s), cellsInParts(t, l[at:], s)
	if s.next()%2 == 0 {
		a, b = b, a
	}
	return impl.CellsMerge(a, b)
}

func TestPromise15InTwoParts(t *testing.T) {
	for i, l := range placedLists() {
		want := plainCells(l)
		for _, at := range []int{0, len(l) / 3, len(l) / 2, max(len(l)-1, 0), len(l)} {
			for order := range uint64(2) {
				mixed := shuffled(l, order+9)
				a, b := impl.CellsOf(stampedOf(mixed[:at])), impl.CellsOf(stampedOf(mixed[at:]))
				what := fmt.Sprintf("list %d, order %d, in parts of %d and %d samples", i, order, at, len(l)-at)
				wantCells(t, what, impl.CellsOut{Cells: impl.CellsMerge(a.Cells, b.Cells), Code: a.Code}, want)
				wantCells(t, what+", the other way round", impl.CellsOut{Cells: impl.CellsMerge(b.Cells, a.Cells), Code: b.Code}, want)
			}
		}
	}
}

func TestPromise15InManyParts(t *testing.T) {
	for i, l := range placedLists() {
		want := plainCells(l)
		for seed := range uint64(3) {
			s := steps(seed + 300)
			got := cellsInParts(t, shuffled(l, seed), &s)
			if !sameCells(got, want) || !impl.CellsSame(got, want) {
				t.Fatalf("list %d, parts %d: %+v, want %+v", i, seed, got, want)
			}
		}
	}
}

func TestCellsOfAboutMaxCells(t *testing.T) {
	for order := range uint64(5) {
		all := shuffled(putEach(0, impl.MaxCells), order)
		wantCells(t, "MaxCells cells", impl.CellsOf(stampedOf(all)), cellsFrom(0, impl.MaxCells))
		twice := slices.Concat(all, shuffled(all, order+1))
		wantCells(t, "MaxCells cells of two samples", impl.CellsOf(stampedOf(twice)), plainCells(twice))
		most := slices.Concat(twice, all, all, all, all, all[:impl.MaxList-6*impl.MaxCells])
		wantCells(t, "MaxCells cells of MaxList samples", impl.CellsOf(stampedOf(most)), plainCells(most))
		for _, more := range []placed{
			{0, sampleOf(impl.Counter, "a{}", 1)},
			{0, sampleOf(impl.Gauge, "c0{x}", 1)},
			{impl.MaxCells / 2, sampleOf(impl.Set, "c0{}", 1)},
			{greatestWindow, sampleOf(impl.Histogram, "c1{}", 1)},
		} {
			// Wherever it stands, one of them is the last to want a cell.
			for _, at := range []int{0, 1, impl.MaxCells / 2, impl.MaxCells - 1, impl.MaxCells} {
				l := slices.Insert(slices.Clone(all), at, more)
				wantRefused(t, fmt.Sprintf("one cell more at the place %d", at), stampedOf(l), impl.ErrFull)
				wantRefused(t, "one cell more ahead of others", stampedOf(slices.Concat(l, all)), impl.ErrFull)
			}
			wantRefused(t, "one cell more behind others", stampedOf(slices.Concat(twice, []placed{more})), impl.ErrFull)
			alone := impl.CellsOf(stampedOf([]placed{more}))
			full := impl.CellsOf(stampedOf(all))
			if got := impl.CellsMerge(full.Cells, alone.Cells); alone.Code != impl.OK || full.Code != impl.OK || len(got) != 0 {
				t.Errorf("one cell more, brought together: %d cells", len(got))
			}
		}
	}
}

func TestCellsOfAboutMaxList(t *testing.T) {
	l := somePlaced(4, impl.MaxList+1)
	for _, many := range []int{impl.MaxList - 1, impl.MaxList} {
		wantCells(t, fmt.Sprintf("%d samples", many), impl.CellsOf(stampedOf(l[:many])), plainCells(l[:many]))
	}
	// Too many are refused ahead of any fault of one of them.
	wantRefused(t, "MaxList and 1 samples", stampedOf(l), impl.ErrSize)
	wantRefused(t, "twice MaxList samples", stampedOf(slices.Concat(l, l[2:])), impl.ErrSize)
	wantRefused(t, "MaxList and 1 zero ones", make([]impl.Stamped, impl.MaxList+1), impl.ErrSize)
	wantRefused(t, "MaxList and 1 cells", stampedOf(putEach(0, impl.MaxList+1)), impl.ErrSize)
	for what, spoilt := range faultsBehind() {
		long := slices.Concat(stampedOf(putEach(0, impl.MaxCells)), []impl.Stamped{spoilt.stamped}, stampedOf(l))
		wantRefused(t, what+", of too many", long, impl.ErrSize)
	}
	wantRefused(t, "MaxList zero ones", make([]impl.Stamped, impl.MaxList), impl.ErrForm)
	wantRefused(t, "MaxList cells", stampedOf(putEach(0, impl.MaxList)), impl.ErrFull)
	// Neither a text nor a list within a list is held against chapter 1's bounds: it is a sample that is not right.
	long := impl.Sample{Kind: impl.Set, Series: "a{}", Word: strings.Repeat("w", impl.MaxBytes+1), Weight: 1}
	wantRefused(t, "a long Word", []impl.Stamped{{Sample: long}}, impl.ErrForm)
}

// fault is what is refused behind MaxCells samples of putEach from 0 on.
type fault struct {
	stamped impl.Stamped
	code    int64
}

func faultsBehind() map[string]fault {
	counter := impl.Sample{Kind: impl.Counter, Series: "c0{}", Value: 1, Weight: 1}
	wrong := counter
	wrong.Weight = 0
	gauge := impl.Sample{Kind: impl.Gauge, Series: "c0{}", Value: 1, Weight: 1}
	twofold := gauge
	twofold.Weight = 2
	elsewhere := counter
	elsewhere.Series = "new{}"
	return map[string]fault{
		"a sample that is not right":           {impl.Stamped{Window: 0, Sample: wrong}, impl.ErrForm},
		"a zero one":                           {impl.Stamped{}, impl.ErrForm},
		"a window below 0":                     {impl.Stamped{Window: -1, Sample: counter}, impl.ErrForm},
		"a window too great":                   {impl.Stamped{Window: greatestWindow + 1, Sample: counter}, impl.ErrForm},
		"another Kind":                         {impl.Stamped{Window: 0, Sample: gauge}, impl.ErrKind},
		"one cell more":                        {impl.Stamped{Window: 0, Sample: elsewhere}, impl.ErrFull},
		"one window more":                      {impl.Stamped{Window: greatestWindow, Sample: counter}, impl.ErrFull},
		"one window more, of another Kind":     {impl.Stamped{Window: impl.MaxCells, Sample: gauge}, impl.ErrFull},
		"not right, and another Kind":          {impl.Stamped{Window: 0, Sample: twofold}, impl.ErrForm},
		"not right, and one cell more":         {impl.Stamped{Window: greatestWindow, Sample: twofold}, impl.ErrForm},
		"no window, and one cell more":         {impl.Stamped{Window: -1, Sample: elsewhere}, impl.ErrForm},
		"no window, and a sample of all wrong": {impl.Stamped{Window: -1}, impl.ErrForm},
	}
}

func TestEachFaultOfCellsOf(t *testing.T) {
	full := stampedOf(putEach(0, impl.MaxCells))
	for what, f := range faultsBehind() {
		one := []impl.Stamped{f.stamped}
		wantRefused(t, what, slices.Concat(full, one), f.code)
		wantRefused(t, what+", with samples behind it", slices.Concat(full, one, full), f.code)
		wantRefused(t, what+", twice", slices.Concat(full, one, one), f.code)
		if f.code == impl.ErrForm {
			wantRefused(t, what+", alone", one, f.code)
			wantRefused(t, what+", first", slices.Concat(one, full), f.code)
			wantRefused(t, what+", between others", slices.Concat(full[:9], one, full[9:]), f.code)
		}
	}
	some := stampedOf(somePlaced(3, 12))
	for what, x := range wrongSamples() {
		for at := range len(some) + 1 {
			wantRefused(t, fmt.Sprintf("%s at the place %d", what, at), slices.Insert(slices.Clone(some), at, impl.Stamped{Window: 2, Sample: x}), impl.ErrForm)
		}
	}
	for _, window := range noWindows {
		for _, x := range rightSamples()[:30] {
			wantRefused(t, fmt.Sprintf("the window %d", window), []impl.Stamped{{Window: window, Sample: x}}, impl.ErrForm)
		}
	}
}

// TestFirstFaultOfCellsOf has two faults at different places: the one that comes first is told.
func TestFirstFaultOfCellsOf(t *testing.T) {
	full := stampedOf(putEach(0, impl.MaxCells))
	for what, f := range faultsBehind() {
		for other, g := range faultsBehind() {
			near := slices.Concat(full, []impl.Stamped{f.stamped, g.stamped})
			wantRefused(t, what+", then "+other, near, f.code)
			far := slices.Concat(full, full[:20], []impl.Stamped{f.stamped}, full, []impl.Stamped{g.stamped})
			wantRefused(t, what+", and later "+other, far, f.code)
		}
	}
}

func TestCellsOfUnlikeKinds(t *testing.T) {
	for _, first := range allKinds {
		for _, second := range allKinds {
			a, b := sampleOf(first, "a{}", 1), sampleOf(second, "a{}", 2)
			between := sampleOf(impl.Set, "z{}", 3)
			l := []placed{{3, a}, {3, between}, {3, b}}
			if first != second {
				wantRefused(t, fmt.Sprintf("the Kinds %d and %d", first, second), stampedOf(l), impl.ErrKind)
			} else {
				wantCells(t, fmt.Sprintf("the Kind %d twice", first), impl.CellsOf(stampedOf(l)), plainCells(l))
			}
			// In another window, or of another Series, any Kind may come.
			elsewhere := b
			elsewhere.Series = "b{}"
			apart := []placed{{3, a}, {4, b}, {3, elsewhere}}
			if got := impl.CellsOf(stampedOf(apart)); got.Code != impl.OK || len(got.Cells) != 3 || !sameCells(got.Cells, plainCells(apart)) {
				t.Errorf("the Kinds %d and %d apart: %+v", first, second, got)
			}
		}
	}
}

// TestWindowsAndTimes holds that no window hangs on the Time of its samples.
func TestWindowsAndTimes(t *testing.T) {
	early, late := gaugeSample(5, 0), gaugeSample(4, greatestTime)
	l := []placed{{greatestWindow, early}, {0, late}, {1, late}, {1, early}}
	wantCells(t, "gauges", impl.CellsOf(stampedOf(l)), []impl.Cell{
		{Window: 0, Series: "level{}", Agg: impl.Agg{Kind: impl.Gauge, Samples: 1, Last: 4, LastAt: greatestTime}},
		{Window: 1, Series: "level{}", Agg: impl.Agg{Kind: impl.Gauge, Samples: 2, Last: 4, LastAt: greatestTime}},
		{Window: greatestWindow, Series: "level{}", Agg: impl.Agg{Kind: impl.Gauge, Samples: 1, Last: 5, LastAt: 0}},
	})
}

func TestCellsOfIsNewMemory(t *testing.T) {
	for i, l := range placedLists() {
		// Room behind a list belongs to whoever handed it in.
		given := append(stampedOf(l), stampedOf(somePlaced(1, 5))...)
		kept := slices.Clone(given)
		first := impl.CellsOf(given[:len(l)])
		again := impl.CellsOf(given[:len(l)])
		if spoilCells(first.Cells) {
			t.Fatalf("list %d: two lists of an answer share memory", i)
		}
		wantCells(t, fmt.Sprintf("list %d, another answer spoilt", i), again, plainCells(l))
		wantCells(t, fmt.Sprintf("list %d once more", i), impl.CellsOf(given[:len(l)]), again.Cells)
		if !slices.Equal(given, kept) {
			t.Fatalf("list %d is changed", i)
		}
	}
	for what, f := range faultsBehind() {
		given := append(stampedOf(putEach(0, impl.MaxCells)), f.stamped)
		kept := slices.Clone(given)
		impl.CellsOf(given)
		impl.CellsOf(given[:10])
		if !slices.Equal(given, kept) {
			t.Errorf("%s: what is handed in is changed", what)
		}
	}
}

// TestCellsOfKeepsNothing has refused lists in between, and no order in which cells stand inside is seen.
func TestCellsOfKeepsNothing(t *testing.T) {
	l := shuffled(putEach(0, impl.MaxCells), 3)
	want := cellsFrom(0, impl.MaxCells)
	for what, f := range faultsBehind() {
		wantRefused(t, what, append(stampedOf(l), f.stamped), f.code)
		wantCells(t, "behind "+what, impl.CellsOf(stampedOf(l)), want)
	}
}
