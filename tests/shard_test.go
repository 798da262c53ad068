package tests

import (
	"fmt"
	"math"
	"slices"
	"sort"
	"strings"
	"testing"

	"loop.example/g00309/impl"
)

const greatestWindow = 1000000000

var noWindows = []int64{-1, -2, greatestWindow + 1, 1 << 32, math.MinInt64, math.MaxInt64}

var noNames = []string{"", "A", "0", "9a", "_", ".a", "a-", "a#0", "a b", "a{}", "é", "a\n", strings.Repeat("a", 41), strings.Repeat("a", impl.MaxBytes+1)}

// placed is a sample, and the window that it is put into.
type placed struct {
	window int64
	sample impl.Sample
}

func sameCells(a []impl.Cell, b []impl.Cell) bool {
	return slices.EqualFunc(a, b, func(c impl.Cell, d impl.Cell) bool {
		return c.Window == d.Window && c.Series == d.Series && sameAgg(c.Agg, d.Agg)
	})
}

func sameShardOut(a impl.ShardOut, b impl.ShardOut) bool {
	return a.Code == b.Code && a.Shard.Name == b.Shard.Name && sameCells(a.Shard.Cells, b.Shard.Cells) && sameCells(a.Cells, b.Cells)
}

func cloneCells(l []impl.Cell) []impl.Cell {
	l = slices.Clone(l)
	for i := range l {
		l[i].Agg = cloneAgg(l[i].Agg)
	}
	return l
}

// without is a list that lacks the cell of one place.
func without(l []impl.Cell, at int) []impl.Cell {
	return slices.Concat(l[:at], l[at+1:])
}

// plainCells has all samples at hand at once: it looks for each cell's own ones, apart from the program's way.
func plainCells(l []placed) []impl.Cell {
	var cells []impl.Cell
	for i, p := range l {
		belongs := func(o placed) bool { return o.window == p.window && o.sample.Series == p.sample.Series }
		if slices.ContainsFunc(l[:i], belongs) {
			continue
		}
		var own []impl.Sample
		for _, o := range l {
			if belongs(o) {
				own = append(own, o.sample)
			}
		}
		cells = append(cells, impl.Cell{Window: p.window, Series: p.sample.Series, Agg: plainAgg(own[0].Kind, own)})
	}
	sortCells(cells)
	return cells
}

func sortCells(l []impl.Cell) {
	sort.SliceStable(l, func(i int, j int) bool {
		if l[i].Window != l[j].Window {
			return l[i].Window < l[j].Window
		}
		return l[i].Series < l[j].Series
	})
}

func sampleOf(kind int64, series string, seed uint64) impl.Sample {
	x := someSamples(kind, seed, 1)[0]
	x.Series = series
	return x
}

// kindOfSeries gives each series a kind of its own, so that any of its samples may be put.
func kindOfSeries(series string) int64 {
	return allKinds[libraryHash(series)%4]
}

// somePlaced go to few windows and few series, so that many of them belong together.
func somePlaced(seed uint64, many int) []placed {
	s := steps(seed*101 + 7)
	windows := []int64{0, 1, 2, 9, 10, 99, greatestWindow - 1, greatestWindow}
	series := []string{"a{}", "a.b{}", "a{b}", "a{b,c}", "b{}", "hits{a:1}", "a0{}"}
	var l []placed
	for range many {
		name := series[s.next()%uint64(len(series))]
		l = append(l, placed{windows[s.next()%uint64(len(windows))], sampleOf(kindOfSeries(name), name, s.next())})
	}
	return l
}

// oneOf is a cell of a single sample.
func oneOf(window int64, series string, kind int64) impl.Cell {
	return impl.Cell{Window: window, Series: series, Agg: plainAgg(kind, []impl.Sample{sampleOf(kind, series, 1)})}
}

// cellsFrom are so many cells of all kinds, two of them a window; those of one number are alike.
func cellsFrom(first int, many int) []impl.Cell {
	var l []impl.Cell
	for i := first; i < first+many; i++ {
		l = append(l, oneOf(int64(i/2), fmt.Sprintf("c%d{}", i%2), allKinds[i%4]))
	}
	return l
}

func putPlaced(t *testing.T, s impl.Shard, l []placed) impl.Shard {
	t.Helper()
	for _, p := range l {
		got := impl.ShardPut(s, p.window, p.sample)
		if got.Code != impl.OK {
			t.Fatalf("ShardPut of %+v: code %d", p, got.Code)
		}
		s = got.Shard
	}
	return s
}

func rightCells() [][]impl.Cell {
	hundred := plainSeries(longSeries(100))
	l := [][]impl.Cell{
		nil,
		{},
		{oneOf(0, "a{}", impl.Counter)},
		{oneOf(greatestWindow, hundred, impl.Set)},
		{oneOf(0, "a{}", impl.Gauge), oneOf(greatestWindow, "a{}", impl.Histogram)},
		{oneOf(9, "z{}", impl.Set), oneOf(10, "a{}", impl.Set), oneOf(100, "a{}", impl.Counter)},
		{oneOf(5, "a.b{}", 1), oneOf(5, "a{b,c}", 2), oneOf(5, "a{b}", 3), oneOf(5, "a{}", 4), oneOf(5, "b{}", 1)},
		{oneOf(5, "a{}", 1), oneOf(6, "a{}", 1), oneOf(7, "a{}", 1)},
		cellsFrom(0, impl.MaxCells-1),
		cellsFrom(0, impl.MaxCells),
		cellsFrom(2*greatestWindow-impl.MaxCells+2, impl.MaxCells),
	}
	for seed := range uint64(12) {
		l = append(l, plainCells(somePlaced(seed, 1+int(seed)*25)))
	}
	var aggs []impl.Cell
	for i, a := range rightAggs() {
		if a.Samples > 0 {
			aggs = append(aggs, impl.Cell{Window: int64(i), Series: "a{}", Agg: a})
		}
	}
	for part := range slices.Chunk(aggs, impl.MaxCells/2) {
		l = append(l, part)
	}
	return l
}

// wrongCells have one fault each, ahead of right cells, behind them and between.
func wrongCells() map[string][]impl.Cell {
	m := map[string][]impl.Cell{
		"61 cells":              cellsFrom(0, impl.MaxCells+1),
		"120 cells":             cellsFrom(0, 2*impl.MaxCells),
		"400 cells":             cellsFrom(0, impl.MaxList),
		"401 cells":             cellsFrom(0, impl.MaxList+1),
		"falling Windows":       {oneOf(2, "a{}", 1), oneOf(1, "a{}", 1)},
		"falling as numbers":    {oneOf(10, "a{}", 1), oneOf(9, "a{}", 1)},
		"Windows fall at last":  {oneOf(1, "a{}", 1), oneOf(3, "a{}", 1), oneOf(2, "b{}", 1)},
		"Windows fall at first": {oneOf(2, "a{}", 1), oneOf(1, "b{}", 1), oneOf(3, "c{}", 1)},
		"falling Series":        {oneOf(1, "b{}", 1), oneOf(1, "a{}", 1)},
		"Series fall at last":   {oneOf(1, "a{}", 1), oneOf(2, "c{}", 1), oneOf(2, "b{}", 1)},
		"falling by a tag":      {oneOf(1, "a{}", 1), oneOf(1, "a{b}", 1)},
		"the same twice":        {oneOf(1, "a{}", 1), oneOf(1, "a{}", 1)},
		"twice, unlike Kinds":   {oneOf(1, "a{}", 1), oneOf(1, "a{}", 2)},
		"twice at last":         {oneOf(0, "a{}", 1), oneOf(1, "a{}", 1), oneOf(1, "a{}", 1)},
		"a zero cell":           {{}},
	}
	aside := func(what string, c impl.Cell) {
		m[what+", alone"] = []impl.Cell{c}
		many := append(cellsFrom(2, 4), c)
		sortCells(many)
		m[what+", among others"] = many
		m[what+", first"] = append([]impl.Cell{c}, cellsFrom(100, 3)...)
		m[what+", last"] = append(cellsFrom(0, 3), c)
	}
	for _, window := range noWindows {
		aside(fmt.Sprintf("Window %d", window), oneOf(window, "a{}", impl.Counter))
	}
	for _, series := range []string{"", "a", "a{", "{}", "a{b", "a{c,b}", "a{b,b}", "A{}", "a{}}", "a{} ", plainSeries(longSeries(100)) + "}", strings.Repeat("a", impl.MaxBytes+1)} {
		c := oneOf(7, "a{}", impl.Counter)
		c.Series = series
		aside(fmt.Sprintf("Series %.30q", series), c)
	}
	for _, kind := range allKinds {
		aside(fmt.Sprintf("no Sample of the Kind %d", kind), impl.Cell{Window: 7, Series: "a{}", Agg: nothingOf(kind)})
	}
	aside("no Sample, and a Sum", impl.Cell{Window: 7, Series: "a{}", Agg: impl.Agg{Kind: impl.Counter, Sum: impl.WideOf(5)}})
	for what, a := range wrongAggs() {
		a.Samples = max(a.Samples, 1)
		m["an Agg: "+what] = []impl.Cell{{Window: 7, Series: "a{}", Agg: a}}
		m["an Agg at last: "+what] = append(cellsFrom(0, 3), impl.Cell{Window: 7, Series: "a{}", Agg: a})
	}
	return m
}

func TestCellsAndShardsRight(t *testing.T) {
	for i, l := range rightCells() {
		if !impl.CellsRight(l) {
			t.Errorf("CellsRight of the list %d: false", i)
		}
		for _, name := range []string{"a", "z.0_", strings.Repeat("z", 40)} {
			if !impl.ShardRight(impl.Shard{Name: name, Cells: l}) {
				t.Errorf("ShardRight of %q and the list %d: false", name, i)
			}
		}
		for _, name := range noNames {
			if impl.ShardRight(impl.Shard{Name: name, Cells: l}) {
				t.Errorf("ShardRight of %.50q and the list %d: true", name, i)
			}
		}
	}
	if impl.ShardRight(impl.Shard{}) {
		t.Errorf("ShardRight of the zero Shard: true")
	}
}

func wantCode(t *testing.T, what string, got impl.ShardOut, code int64) {
	t.Helper()
	if !sameShardOut(got, impl.ShardOut{Code: code}) {
		t.Errorf("%s: %+v, want the code %d and nothing else", what, got, code)
	}
}

func TestWrongCells(t *testing.T) {
	x := impl.Sample{Kind: impl.Counter, Series: "a{}", Value: 1, Weight: 1}
	right := [][]impl.Cell{nil, cellsFrom(0, 3), cellsFrom(200, 1)}
	for what, l := range wrongCells() {
		kept := cloneCells(l)
		s := impl.Shard{Name: "a", Cells: l}
		if impl.CellsRight(l) || impl.ShardRight(s) {
			t.Errorf("%s: right", what)
		}
		wantCode(t, what+": ShardPut", impl.ShardPut(s, 7, x), impl.ErrForm)
		wantCode(t, what+": ShardTake", impl.ShardTake(s, 7), impl.ErrForm)
		for _, other := range append(right, l) {
			if got := impl.CellsMerge(l, other); len(got) != 0 {
				t.Errorf("%s: CellsMerge with %d cells: %d of them", what, len(other), len(got))
			}
			if got := impl.CellsMerge(other, l); len(got) != 0 {
				t.Errorf("%s: CellsMerge of %d cells with it: %d of them", what, len(other), len(got))
			}
		}
		if !sameCells(l, kept) {
			t.Errorf("%s: it is changed", what)
		}
	}
}

func TestWrongShardsSamplesAndWindows(t *testing.T) {
	x := impl.Sample{Kind: impl.Counter, Series: "c0{}", Value: 1, Weight: 1}
	for _, cells := range [][]impl.Cell{nil, cellsFrom(0, 4), cellsFrom(0, impl.MaxCells)} {
		s := impl.Shard{Name: "a", Cells: cells}
		for _, name := range noNames {
			wrong := impl.Shard{Name: name, Cells: cells}
			wantCode(t, fmt.Sprintf("Name %.50q: ShardPut", name), impl.ShardPut(wrong, 0, x), impl.ErrForm)
			wantCode(t, fmt.Sprintf("Name %.50q: ShardTake", name), impl.ShardTake(wrong, 0), impl.ErrForm)
		}
		for what, wrong := range wrongSamples() {
			wantCode(t, what+": ShardPut", impl.ShardPut(s, 0, wrong), impl.ErrForm)
		}
		for _, window := range noWindows {
			wantCode(t, fmt.Sprintf("window %d: ShardPut", window), impl.ShardPut(s, window, x), impl.ErrForm)
			wantCode(t, fmt.Sprintf("window %d: ShardTake", window), impl.ShardTake(s, window), impl.ErrForm)
		}
	}
}

func TestFirstFaultOfShardPut(t *testing.T) {
	// Its first cell is a Counter at 0 of c0{}, its third a Histogram at 1 of c0{}.
	full := impl.Shard{Name: "a", Cells: cellsFrom(0, impl.MaxCells)}
	few := impl.Shard{Name: "a", Cells: cellsFrom(0, 4)}
	counter := impl.Sample{Kind: impl.Counter, Series: "c0{}", Value: 1, Weight: 1}
	gauge := impl.Sample{Kind: impl.Gauge, Series: "c0{}", Value: 1, Weight: 1}
	wrong := gauge
	wrong.Weight = 2
	elsewhere := counter
	elsewhere.Series = "new{}"
	noName := func(s impl.Shard) impl.Shard { return impl.Shard{Name: "A", Cells: s.Cells} }
	for _, c := range []struct {
		what   string
		shard  impl.Shard
		window int64
		sample impl.Sample
		code   int64
	}{
		{"another Kind", few, 0, gauge, impl.ErrKind},
		{"another Kind, of a full Shard", full, 0, gauge, impl.ErrKind},
		{"another Kind, though that Series has it elsewhere", full, 1, counter, impl.ErrKind},
		{"the same Kind, of a full Shard", full, 0, counter, impl.OK},
		{"a Kind that the Series has not elsewhere", few, 2, gauge, impl.OK},
		{"a new Series of a full Shard", full, 0, elsewhere, impl.ErrFull},
		{"a new window of a full Shard", full, impl.MaxCells, counter, impl.ErrFull},
		{"a new window of a full Shard, of another Kind", full, greatestWindow, gauge, impl.ErrFull},
		{"no Name, and another Kind", noName(few), 0, gauge, impl.ErrForm},
		{"no Name, and full", noName(full), 0, elsewhere, impl.ErrForm},
		{"a wrong sample, and another Kind", few, 0, wrong, impl.ErrForm},
		{"a wrong sample, and full", full, impl.MaxCells, wrong, impl.ErrForm},
		{"no window, and full", full, -1, counter, impl.ErrForm},
		{"no window, another Kind and full", full, greatestWindow + 1, gauge, impl.ErrForm},
		{"no Name, a wrong sample and no window", noName(full), -1, wrong, impl.ErrForm},
	} {
		got := impl.ShardPut(c.shard, c.window, c.sample)
		if c.code != impl.OK {
			wantCode(t, c.what, got, c.code)
		} else if got.Code != impl.OK || !impl.ShardRight(got.Shard) {
			t.Errorf("%s: code %d", c.what, got.Code)
		}
	}
}

func TestEachKindMeetsEachKind(t *testing.T) {
	for _, there := range allKinds {
		s := impl.Shard{Name: "a", Cells: []impl.Cell{oneOf(3, "a{}", there), oneOf(4, "a{}", impl.Set)}}
		for _, kind := range allKinds {
			got := impl.ShardPut(s, 3, sampleOf(kind, "a{}", 5))
			if kind != there {
				wantCode(t, fmt.Sprintf("Kind %d into the Kind %d", kind, there), got, impl.ErrKind)
			} else if got.Code != impl.OK || got.Shard.Cells[0].Agg.Samples != 2 {
				t.Errorf("Kind %d: %+v", kind, got)
			}
			merged := impl.CellsMerge(s.Cells, []impl.Cell{oneOf(3, "a{}", kind)})
			if kind != there && len(merged) != 0 {
				t.Errorf("Kinds %d and %d brought together: %+v", there, kind, merged)
			}
			if kind == there && len(merged) != 2 {
				t.Errorf("Kind %d brought together: %+v", kind, merged)
			}
		}
	}
}

func TestShardPut(t *testing.T) {
	base := []placed{
		{2, sampleOf(impl.Counter, "b{}", 1)},
		{2, sampleOf(impl.Set, "d{}", 2)},
		{4, sampleOf(impl.Gauge, "b{}", 3)},
		{4, sampleOf(impl.Histogram, "b{x}", 4)},
	}
	for _, c := range []struct {
		what   string
		window int64
		series string
		kind   int64
		place  int
		many   int
	}{
		{"there, a Counter", 2, "b{}", impl.Counter, 0, 4},
		{"there, a Set", 2, "d{}", impl.Set, 1, 4},
		{"there, a Gauge", 4, "b{}", impl.Gauge, 3, 4},
		{"there, a Histogram", 4, "b{x}", impl.Histogram, 2, 4},
		{"ahead of the first window", 0, "z{}", impl.Gauge, 0, 5},
		{"ahead of the first Series", 2, "a{}", impl.Set, 0, 5},
		{"between two Series", 2, "c{}", impl.Histogram, 1, 5},
		{"between two windows", 3, "a{}", impl.Counter, 2, 5},
		{"behind a window's last", 2, "z{}", impl.Gauge, 2, 5},
		{"ahead of the next one's first", 4, "a{}", impl.Set, 2, 5},
		{"ahead of the last Series", 4, "b{xx}", impl.Counter, 2, 5},
		{"behind the last Series", 4, "c{}", impl.Counter, 4, 5},
		{"behind the last window", 10, "a{}", impl.Histogram, 4, 5},
		{"at the last window of all", greatestWindow, "a{}", impl.Set, 4, 5},
	} {
		s := impl.Shard{Name: "m.1", Cells: plainCells(base)}
		x := sampleOf(c.kind, c.series, 9)
		got := impl.ShardPut(s, c.window, x)
		want := impl.ShardOut{Shard: impl.Shard{Name: "m.1", Cells: plainCells(append(slices.Clone(base), placed{c.window, x}))}}
		if !sameShardOut(got, want) || len(got.Shard.Cells) != c.many {
			t.Errorf("%s: %+v, want %+v", c.what, got, want)
			continue
		}
		if at := got.Shard.Cells[c.place]; at.Window != c.window || at.Series != c.series {
			t.Errorf("%s: at the place %d stands %+v", c.what, c.place, at)
		}
	}
}

func TestShardPutIntoNoCells(t *testing.T) {
	for _, cells := range [][]impl.Cell{nil, {}} {
		for _, window := range []int64{0, 1, greatestWindow} {
			for _, x := range rightSamples() {
				got := impl.ShardPut(impl.Shard{Name: "a", Cells: cells}, window, x)
				want := impl.ShardOut{Shard: impl.Shard{Name: "a", Cells: plainCells([]placed{{window, x}})}}
				if !sameShardOut(got, want) || !impl.ShardRight(got.Shard) {
					t.Fatalf("%+v at %d: %+v", x, window, got)
				}
			}
		}
	}
}

func TestShardPutAboutMaxCells(t *testing.T) {
	almost := impl.Shard{Name: "a", Cells: cellsFrom(1, impl.MaxCells-1)}
	for _, p := range []placed{
		{0, sampleOf(impl.Counter, "a{}", 1)},
		{15, sampleOf(impl.Gauge, "c0{x}", 2)},
		{greatestWindow, sampleOf(impl.Set, "c0{}", 3)},
	} {
		got := impl.ShardPut(almost, p.window, p.sample)
		if got.Code != impl.OK || len(got.Shard.Cells) != impl.MaxCells || !impl.ShardRight(got.Shard) {
			t.Fatalf("the last cell at %d: code %d, %d cells", p.window, got.Code, len(got.Shard.Cells))
		}
		full := got.Shard
		again := impl.ShardPut(full, p.window, p.sample)
		if again.Code != impl.OK || len(again.Shard.Cells) != impl.MaxCells || !impl.ShardRight(again.Shard) {
			t.Errorf("the same at %d once more: code %d", p.window, again.Code)
		}
		other := p.sample
		other.Series = "y{}"
		wantCode(t, "one cell more", impl.ShardPut(full, p.window, other), impl.ErrFull)
		if taken := impl.ShardTake(full, p.window); impl.ShardPut(taken.Shard, p.window, other).Code != impl.OK {
			t.Errorf("there is no room at %d when its cells are taken", p.window)
		}
	}
}

// TestSamplesStayAtTheirGreatest holds that a cell counts its samples as weights are counted.
func TestSamplesStayAtTheirGreatest(t *testing.T) {
	for _, kind := range allKinds {
		c := oneOf(1, "a{}", kind)
		c.Agg.Samples = greatestWeight
		s := impl.Shard{Name: "a", Cells: []impl.Cell{c}}
		if got := impl.ShardPut(s, 1, sampleOf(kind, "a{}", 2)); got.Code != impl.OK || got.Shard.Cells[0].Agg.Samples != greatestWeight {
			t.Errorf("Kind %d: %+v", kind, got)
		}
		if got := impl.CellsMerge(s.Cells, s.Cells); len(got) != 1 || got[0].Agg.Samples != greatestWeight {
			t.Errorf("Kind %d brought together: %+v", kind, got)
		}
	}
}

// checkPut holds that a put leaves every cell but its own, and that this one has the sample.
func checkPut(t *testing.T, s impl.Shard, p placed) {
	t.Helper()
	got := impl.ShardPut(s, p.window, p.sample)
	own := func(c impl.Cell) bool { return c.Window == p.window && c.Series == p.sample.Series }
	at, was := slices.IndexFunc(got.Shard.Cells, own), slices.IndexFunc(s.Cells, own)
	if got.Code != impl.OK || got.Shard.Name != s.Name || len(got.Cells) != 0 || at < 0 || !impl.ShardRight(got.Shard) {
		t.Fatalf("%+v put: %+v", p, got)
	}
	others, before := without(got.Shard.Cells, at), impl.AggNew(p.sample.Kind)
	if was < 0 {
		if !sameCells(others, s.Cells) {
			t.Fatalf("%+v put: other cells are changed", p)
		}
	} else {
		before = s.Cells[was].Agg
		if !sameCells(others, without(s.Cells, was)) {
			t.Fatalf("%+v put: other cells are changed", p)
		}
	}
	if want := impl.AggPut(before, p.sample); !sameAgg(got.Shard.Cells[at].Agg, want) {
		t.Fatalf("%+v put: its cell is %+v, want %+v", p, got.Shard.Cells[at], want)
	}
}

func TestPromise13ItsCellAlone(t *testing.T) {
	for i, l := range rightCells() {
		s := impl.Shard{Name: "a", Cells: l}
		for j, c := range l {
			checkPut(t, s, placed{c.Window, sampleOf(c.Agg.Kind, c.Series, uint64(i+j))})
		}
		if len(l) == impl.MaxCells {
			continue
		}
		for j, kind := range allKinds {
			for _, window := range []int64{0, 7, greatestWindow} {
				checkPut(t, s, placed{window, sampleOf(kind, "a.new{}", uint64(j))})
			}
		}
	}
}

func TestPromise13PutsInAnyOrder(t *testing.T) {
	for seed := range uint64(10) {
		l := somePlaced(seed, 5+int(seed)*20)
		want := plainCells(l)
		for order := range uint64(4) {
			s := putPlaced(t, impl.Shard{Name: "b"}, shuffled(l, order))
			if s.Name != "b" || !sameCells(s.Cells, want) || !impl.ShardRight(s) {
				t.Fatalf("list %d, order %d: %+v, want %+v", seed, order, s.Cells, want)
			}
		}
	}
}

func TestPromise13WhatIsTakenOfAWindow(t *testing.T) {
	for i, l := range rightCells() {
		s := impl.Shard{Name: "m", Cells: l}
		windows := []int64{0, 1, 7, 12345, greatestWindow - 1, greatestWindow}
		for _, c := range l {
			windows = append(windows, c.Window)
		}
		for _, window := range windows {
			var own, others []impl.Cell
			for _, c := range l {
				if c.Window == window {
					own = append(own, c)
				} else {
					others = append(others, c)
				}
			}
			got := impl.ShardTake(s, window)
			if want := (impl.ShardOut{Shard: impl.Shard{Name: "m", Cells: others}, Cells: own}); !sameShardOut(got, want) {
				t.Fatalf("list %d, window %d: %+v, want %+v", i, window, got, want)
			}
			if !impl.ShardRight(got.Shard) || !impl.CellsRight(got.Cells) {
				t.Fatalf("list %d, window %d: what is left, or taken, is not right", i, window)
			}
			again := impl.ShardTake(got.Shard, window)
			if want := (impl.ShardOut{Shard: got.Shard}); !sameShardOut(again, want) {
				t.Fatalf("list %d, window %d taken twice: %+v", i, window, again)
			}
			for _, back := range [][]impl.Cell{impl.CellsMerge(got.Shard.Cells, got.Cells), impl.CellsMerge(got.Cells, got.Shard.Cells)} {
				if !sameCells(back, l) {
					t.Fatalf("list %d, window %d: what is left and taken is not what was there", i, window)
				}
			}
		}
	}
}

func TestPromise13PutThenTaken(t *testing.T) {
	for seed := range uint64(8) {
		l := somePlaced(seed, 60)
		s := putPlaced(t, impl.Shard{Name: "c"}, l)
		for _, window := range []int64{0, 1, 2, 9, 10, 99, greatestWindow - 1, greatestWindow, 50} {
			own := slices.DeleteFunc(slices.Clone(l), func(p placed) bool { return p.window != window })
			l = slices.DeleteFunc(l, func(p placed) bool { return p.window == window })
			got := impl.ShardTake(s, window)
			if !sameCells(got.Cells, plainCells(own)) || !sameCells(got.Shard.Cells, plainCells(l)) || got.Code != impl.OK {
				t.Fatalf("list %d, window %d: %+v", seed, window, got)
			}
			s = got.Shard
		}
		if len(s.Cells) != 0 {
			t.Errorf("list %d: %d cells are left", seed, len(s.Cells))
		}
	}
}

func TestPromise14EitherWayRound(t *testing.T) {
	for seed := range uint64(30) {
		s := steps(seed)
		l := somePlaced(seed, int(seed)*8)
		at := int(s.next() % uint64(len(l)+1))
		a, b := plainCells(l[:at]), plainCells(l[at:])
		got, back, want := impl.CellsMerge(a, b), impl.CellsMerge(b, a), plainCells(l)
		if !sameCells(got, want) || !impl.CellsRight(got) {
			t.Fatalf("%d and %d samples: %+v, want %+v", at, len(l)-at, got, want)
		}
		if !sameCells(got, back) || !impl.CellsSame(got, back) {
			t.Fatalf("%d and %d samples: the other way round: %+v, want %+v", at, len(l)-at, back, want)
		}
	}
}

// TestPromise14AnyRightCells takes also those whose Aggs no samples come to, and those that may not be
// brought together.
func TestPromise14AnyRightCells(t *testing.T) {
	lists := rightCells()
	for i, a := range lists {
		for _, none := range [][]impl.Cell{impl.CellsMerge(a, nil), impl.CellsMerge(nil, a), impl.CellsMerge(a, []impl.Cell{})} {
			if !sameCells(none, a) {
				t.Fatalf("the list %d with no cells: %+v, want %+v", i, none, a)
			}
		}
		for j, b := range lists {
			got, back := impl.CellsMerge(a, b), impl.CellsMerge(b, a)
			want := plainMerge(a, b)
			if !sameCells(got, want) || !sameCells(back, want) || !impl.CellsSame(got, back) || !impl.CellsRight(got) {
				t.Fatalf("the lists %d and %d: %+v and %+v, want %+v", i, j, got, back, want)
			}
		}
	}
}

// plainMerge goes through both lists for each cell, apart from the program's way.
func plainMerge(a []impl.Cell, b []impl.Cell) []impl.Cell {
	l := cloneCells(a)
	for _, c := range b {
		at := slices.IndexFunc(a, func(d impl.Cell) bool { return c.Window == d.Window && c.Series == d.Series })
		if at < 0 {
			l = append(l, c)
			continue
		}
		if l[at].Agg.Kind != c.Agg.Kind {
			return nil
		}
		l[at].Agg = impl.AggMerge(l[at].Agg, c.Agg)
	}
	if len(l) > impl.MaxCells {
		return nil
	}
	sortCells(l)
	return l
}

func TestCellsMerge(t *testing.T) {
	a := []placed{{1, sampleOf(impl.Counter, "a{}", 1)}, {1, sampleOf(impl.Set, "c{}", 2)}, {3, sampleOf(impl.Gauge, "a{}", 3)}}
	b := []placed{{0, sampleOf(impl.Set, "a{}", 4)}, {1, sampleOf(impl.Set, "b{}", 5)}, {3, sampleOf(impl.Histogram, "c{}", 6)}}
	if got := impl.CellsMerge(plainCells(a), plainCells(b)); len(got) != 6 || !sameCells(got, plainCells(slices.Concat(a, b))) {
		t.Errorf("none that belong together: %+v", got)
	}
	for _, kind := range allKinds {
		twice := []placed{{1, sampleOf(kind, "a{}", 1)}, {1, sampleOf(kind, "a{}", 2)}}
		got := impl.CellsMerge(plainCells(twice[:1]), plainCells(twice[1:]))
		if len(got) != 1 || got[0].Agg.Samples != 2 || !sameCells(got, plainCells(twice)) {
			t.Errorf("two of the Kind %d that belong together: %+v", kind, got)
		}
	}
	// Of one Series in two windows, and of two Series in one, no cells belong together.
	apart := [][]impl.Cell{{oneOf(1, "a{}", impl.Counter)}, {oneOf(2, "a{}", impl.Set)}, {oneOf(1, "b{}", impl.Gauge)}}
	for i, first := range apart {
		for _, second := range apart[i+1:] {
			if got := impl.CellsMerge(first, second); len(got) != 2 {
				t.Errorf("%+v and %+v: %+v", first, second, got)
			}
		}
	}
	if got := impl.CellsMerge(nil, nil); len(got) != 0 {
		t.Errorf("no cells: %+v", got)
	}
}

func TestCellsMergeAboutMaxCells(t *testing.T) {
	for _, c := range []struct {
		first, many   int
		second, other int
		want          int
	}{
		{0, 30, 30, 30, 60},
		{0, 30, 30, 31, 0},
		{0, 60, 60, 1, 0},
		{0, 60, 0, 60, 60},
		{0, 60, 59, 1, 60},
		{0, 60, 59, 2, 0},
		{0, 60, 1, 60, 0},
		{0, 60, 60, 60, 0},
		{0, 60, 0, 0, 60},
		{1, 59, 0, 1, 60},
		{0, 40, 20, 40, 60},
		{0, 40, 20, 41, 0},
	} {
		a, b := cellsFrom(c.first, c.many), cellsFrom(c.second, c.other)
		got, back := impl.CellsMerge(a, b), impl.CellsMerge(b, a)
		if len(got) != c.want || !sameCells(got, back) || !sameCells(got, plainMerge(a, b)) {
			t.Errorf("%d cells from %d on and %d from %d on: %d of them, and %d", c.many, c.first, c.other, c.second, len(got), len(back))
		}
	}
}

func TestCellsMergeOfUnlikeKinds(t *testing.T) {
	for _, many := range []int{1, 2, 20, impl.MaxCells} {
		a := cellsFrom(0, many)
		for at := range a {
			b := slices.Clone(a)
			b[at] = oneOf(b[at].Window, b[at].Series, b[at].Agg.Kind%4+1)
			if got := impl.CellsMerge(a, b); len(got) != 0 {
				t.Fatalf("%d cells, unlike at %d: %d of them", many, at, len(got))
			}
			if got := impl.CellsMerge(a, b[at:at+1]); len(got) != 0 {
				t.Fatalf("%d cells, and an unlike one of the place %d: %d of them", many, at, len(got))
			}
			if got := impl.CellsMerge(b[at:at+1], a); len(got) != 0 {
				t.Fatalf("an unlike one of the place %d, and %d cells: %d of them", at, many, len(got))
			}
		}
	}
}

func TestCellsSame(t *testing.T) {
	lists := rightCells()
	for i, a := range lists {
		for j, b := range lists {
			if got, want := impl.CellsSame(a, cloneCells(b)), sameCells(a, b); got != want {
				t.Errorf("CellsSame of the lists %d and %d: %v", i, j, got)
			}
		}
	}
	if !impl.CellsSame(nil, []impl.Cell{}) || !impl.CellsSame([]impl.Cell{}, nil) {
		t.Errorf("no cells and an empty list are not the same")
	}
	for what, change := range map[string]func([]impl.Cell) []impl.Cell{
		"Window":     func(l []impl.Cell) []impl.Cell { l[4].Window++; return l },
		"Series":     func(l []impl.Cell) []impl.Cell { l[2].Series = "c0{x}"; return l },
		"Kind":       func(l []impl.Cell) []impl.Cell { l[0].Agg = nothingOf(impl.Set); return l },
		"Samples":    func(l []impl.Cell) []impl.Cell { l[4].Agg.Samples++; return l },
		"Sum":        func(l []impl.Cell) []impl.Cell { l[0].Agg.Sum.Low++; return l },
		"Last":       func(l []impl.Cell) []impl.Cell { l[1].Agg.Last++; return l },
		"Sketch":     func(l []impl.Cell) []impl.Cell { l[2].Agg.Sketch.Zero++; return l },
		"Hll":        func(l []impl.Cell) []impl.Cell { l[3].Agg.Hll.Exact[0]++; return l },
		"end":        func(l []impl.Cell) []impl.Cell { return l[:4] },
		"beginning":  func(l []impl.Cell) []impl.Cell { return l[1:] },
		"order":      func(l []impl.Cell) []impl.Cell { l[0], l[4] = l[4], l[0]; return l },
		"one more":   func(l []impl.Cell) []impl.Cell { return append(l, oneOf(9, "a{}", impl.Set)) },
		"all, none":  func(l []impl.Cell) []impl.Cell { return nil },
		"last, zero": func(l []impl.Cell) []impl.Cell { l[4] = impl.Cell{}; return l },
	} {
		base := cellsFrom(0, 5)
		other := change(cellsFrom(0, 5))
		if impl.CellsSame(base, other) || impl.CellsSame(other, base) {
			t.Errorf("CellsSame with another %s is true", what)
		}
	}
}

func TestCellsSameAboutMaxList(t *testing.T) {
	for _, many := range []int{impl.MaxCells, impl.MaxCells + 1, impl.MaxList - 1, impl.MaxList, impl.MaxList + 1, 2 * impl.MaxList} {
		l := cellsFrom(0, many)
		if got := impl.CellsSame(l, cloneCells(l)); got != (many <= impl.MaxList) {
			t.Errorf("CellsSame of %d cells and the same: %v", many, got)
		}
		if many > 0 && (impl.CellsSame(l, l[:many-1]) || impl.CellsSame(l[:many-1], l)) {
			t.Errorf("CellsSame of %d cells and one less is true", many)
		}
	}
}

// spoilCells overwrites a list up to its capacity, its Aggs ahead of that, one cell after the other, and
// tells whether two of its lists share memory.
func spoilCells(l []impl.Cell) bool {
	shared := false
	kept := cloneCells(l)
	for i := range l {
		shared = shared || !sameCells(l[i:], kept[i:])
		shared = spoilAgg(l[i].Agg) || shared
	}
	l = l[:cap(l)]
	for i := range l {
		l[i] = impl.Cell{Window: -99, Series: "spoilt"}
	}
	return shared
}

// spoilOut tells also whether the Cells that are left and those that are taken share memory.
func spoilOut(o impl.ShardOut) bool {
	kept := cloneCells(o.Cells)
	shared := spoilCells(o.Shard.Cells)
	shared = shared || !sameCells(o.Cells, kept)
	return spoilCells(o.Cells) || shared
}

func TestCellsAreNewMemory(t *testing.T) {
	lists := rightCells()
	for i, a := range lists {
		b := lists[(i*3+1)%len(lists)]
		keptA, keptB := cloneCells(a), cloneCells(b)
		s := impl.Shard{Name: "a", Cells: a}
		for _, merged := range [][]impl.Cell{impl.CellsMerge(a, b), impl.CellsMerge(b, a), impl.CellsMerge(a, a), impl.CellsMerge(a, nil), impl.CellsMerge(nil, a)} {
			if spoilCells(merged) {
				t.Fatalf("the list %d brought together: two lists of an answer share memory", i)
			}
		}
		outs := []impl.ShardOut{impl.ShardPut(s, 3, sampleOf(impl.Set, "new{}", 1)), impl.ShardTake(s, greatestWindow), impl.ShardTake(s, 12345)}
		for _, c := range a {
			outs = append(outs, impl.ShardPut(s, c.Window, sampleOf(c.Agg.Kind, c.Series, 2)), impl.ShardTake(s, c.Window))
		}
		for _, out := range outs {
			if spoilOut(out) {
				t.Fatalf("the list %d: two lists of an answer share memory", i)
			}
		}
		if !sameCells(a, keptA) || !sameCells(b, keptB) {
			t.Fatalf("the list %d, or what it is brought together with, is changed or shared", i)
		}
	}
}

func TestCellsWithRoomBehind(t *testing.T) {
	// Room behind a list belongs to whoever handed it in.
	all := cellsFrom(0, 20)
	kept := cloneCells(all)
	s := impl.Shard{Name: "a", Cells: all[:10]}
	impl.ShardPut(s, 15, sampleOf(impl.Set, "new{}", 1))
	impl.ShardPut(s, 0, sampleOf(impl.Set, "a{}", 1))
	impl.ShardTake(s, 0)
	impl.ShardTake(s, 4)
	impl.CellsMerge(all[:10], cellsFrom(30, 5))
	impl.CellsMerge(cellsFrom(30, 5), all[:10])
	impl.CellsMerge(all[:5], all[10:15])
	if !sameCells(all, kept) {
		t.Errorf("the room behind a list is written")
	}
}

// TestShardsKeepNothing asks often: no order in which cells stand inside may be seen.
func TestShardsKeepNothing(t *testing.T) {
	full := cellsFrom(0, impl.MaxCells)
	s := impl.Shard{Name: "a", Cells: full}
	x := sampleOf(impl.Counter, "c0{}", 1)
	put, taken, merged := impl.ShardPut(s, 0, x), impl.ShardTake(s, 3), impl.CellsMerge(full[:40], full[20:])
	for range 30 {
		if !sameShardOut(put, impl.ShardPut(s, 0, x)) || !sameShardOut(taken, impl.ShardTake(s, 3)) || !sameCells(merged, impl.CellsMerge(full[:40], full[20:])) {
			t.Fatal("a call that comes again tells something else")
		}
	}
}
