package tests

import (
	"fmt"
	"math"
	"math/big"
	"regexp"
	"slices"
	"strconv"
	"strings"
	"testing"

	"loop.example/g00309/impl"
)

const (
	leastSum    = "-170141183460469231731687303715884105728"
	greatestSum = "170141183460469231731687303715884105727"
)

func plainListText[T any](l []T, tell func(T) string) string {
	if len(l) == 0 {
		return "-"
	}
	text := ""
	for _, item := range l {
		text += "," + tell(item)
	}
	return text[1:]
}

func plainBinsText(l []impl.Bin) string {
	return plainListText(l, func(b impl.Bin) string { return fmt.Sprintf("%d:%d", b.At, b.Weight) })
}

// plainCellText tells a cell whether or not it is right, apart from the program's way.
func plainCellText(c impl.Cell) string {
	a := c.Agg
	head := fmt.Sprintf("%s %s %d ", c.Series, []string{"?", "c", "g", "h", "s"}[a.Kind], a.Samples)
	switch {
	case a.Kind == impl.Counter:
		return head + bigOf(a.Sum).String()
	case a.Kind == impl.Gauge:
		return head + fmt.Sprintf("%s %d", digitsOf(a.Last), a.LastAt)
	case a.Kind == impl.Histogram:
		return head + fmt.Sprintf("%d %s %s %s", a.Sketch.Zero, plainBinsText(a.Sketch.Pos), plainBinsText(a.Sketch.Neg), bigOf(a.Sketch.Sum))
	case len(a.Hll.Regs) > 0:
		return head + "d" + plainListText(a.Hll.Regs, func(n int64) string { return fmt.Sprint(n) })
	}
	return head + "e" + plainListText(a.Hll.Exact, func(n uint64) string { return fmt.Sprint(n) })
}

// textWith is of lines between the first and the last one.
func textWith(window int64, lines ...string) string {
	text := fmt.Sprintf("# window %d\n", window)
	for _, line := range lines {
		text += line + "\n"
	}
	return text + "# end\n"
}

// plainExpo tells cells whether or not they are right, or too many.
func plainExpo(l []impl.Cell) string {
	var window int64
	var lines []string
	for _, c := range l {
		window = c.Window
		lines = append(lines, plainCellText(c))
	}
	return textWith(window, lines...)
}

var (
	someCount = `(0|[1-9][0-9]*)`
	someWhole = `(-?[1-9][0-9]*|0)`
	someValue = `(-?(?:0|[1-9][0-9]*)(?:\.[0-9]*[1-9])?)`
	someBins  = `(-|[0-9]+:[0-9]+(?:,[0-9]+:[0-9]+)*)`
	someHll   = `(e-|[ed][0-9]+(?:,[0-9]+)*)`
	cellHead  = `(\S+) (%c) ` + someCount + ` `
	cellLines = map[int64]*regexp.Regexp{
		impl.Counter:   cellPattern('c', someWhole),
		impl.Gauge:     cellPattern('g', someValue+" "+someWhole),
		impl.Histogram: cellPattern('h', someCount+" "+someBins+" "+someBins+" "+someWhole),
		impl.Set:       cellPattern('s', someHll),
	}
	wholeExpo = regexp.MustCompile(`\A# window ` + someCount + `\n((?:[^\n]+\n)*)# end\n\z`)
)

func cellPattern(letter rune, parts string) *regexp.Regexp {
	return regexp.MustCompile(`\A` + fmt.Sprintf(cellHead, letter) + parts + `\z`)
}

// plainReader knows numbers by the library's ways, and keeps whether all of them were right.
type plainReader struct {
	wrong bool
}

func (r *plainReader) count(text string) uint64 {
	n, err := strconv.ParseUint(text, 10, 64)
	r.wrong = r.wrong || err != nil || len(text) > 1 && text[0] == '0'
	return n
}

func (r *plainReader) whole(text string) int64 {
	n, err := strconv.ParseInt(text, 10, 64)
	r.wrong = r.wrong || err != nil
	return n
}

func (r *plainReader) wide(text string) impl.Wide {
	n, right := new(big.Int).SetString(text, 10)
	if !right || wrapped(n).Cmp(n) != 0 {
		r.wrong = true
		return impl.Wide{}
	}
	return wideOfBig(n)
}

func (r *plainReader) value(text string) int64 {
	v, right := plainValue(text)
	r.wrong = r.wrong || !right || text == "-0"
	return v
}

func (r *plainReader) bins(text string) []impl.Bin {
	var l []impl.Bin
	if text == "-" {
		return nil
	}
	for _, bin := range strings.Split(text, ",") {
		at, weight, _ := strings.Cut(bin, ":")
		l = append(l, impl.Bin{At: int64(r.count(at)), Weight: r.count(weight)})
	}
	return l
}

func (r *plainReader) hll(text string) impl.Hll {
	var h impl.Hll
	if text == "e-" {
		return h
	}
	for _, n := range strings.Split(text[1:], ",") {
		if text[0] == 'e' {
			h.Exact = append(h.Exact, r.count(n))
		} else {
			h.Regs = append(h.Regs, int64(r.count(n)))
		}
	}
	return h
}

func (r *plainReader) cell(window int64, line string) impl.Cell {
	for kind, pattern := range cellLines {
		p := pattern.FindStringSubmatch(line)
		if p == nil {
			continue
		}
		a := impl.Agg{Kind: kind, Samples: r.count(p[3])}
		switch kind {
		case impl.Counter:
			a.Sum = r.wide(p[4])
		case impl.Gauge:
			a.Last, a.LastAt = r.value(p[4]), r.whole(p[5])
		case impl.Histogram:
			a.Sketch = impl.Sketch{Zero: r.count(p[4]), Pos: r.bins(p[5]), Neg: r.bins(p[6]), Sum: r.wide(p[7])}
		case impl.Set:
			a.Hll = r.hll(p[4])
		}
		return impl.Cell{Window: window, Series: p[1], Agg: a}
	}
	r.wrong = true
	return impl.Cell{}
}

// plainExpoRead reads by patterns, apart from the program's way: nothing is told again there.
func plainExpoRead(text string) impl.ExpoOut {
	if len(text) > impl.MaxBytes {
		return impl.ExpoOut{Code: impl.ErrSize}
	}
	parts := wholeExpo.FindStringSubmatch(text)
	if parts == nil {
		return impl.ExpoOut{Code: impl.ErrSyntax}
	}
	var r plainReader
	window := int64(r.count(parts[1]))
	var cells []impl.Cell
	for line := range strings.Lines(parts[2]) {
		cells = append(cells, r.cell(window, strings.TrimSuffix(line, "\n")))
	}
	if r.wrong || len(cells) == 0 && window != 0 || len(cells) > impl.MaxSeries || !impl.CellsRight(cells) {
		return impl.ExpoOut{Code: impl.ErrSyntax}
	}
	return impl.ExpoOut{Cells: cells}
}

func sameExpoOut(a impl.ExpoOut, b impl.ExpoOut) bool {
	return a.Code == b.Code && sameCells(a.Cells, b.Cells)
}

// wantBack holds promise 21 of cells that have a text.
func wantBack(t *testing.T, what string, l []impl.Cell, text string) {
	t.Helper()
	if got := impl.ExpoText(l); got != text {
		t.Fatalf("%s: ExpoText is %.300q, want %.300q", what, got, text)
	}
	got := impl.ExpoRead(text)
	if !sameExpoOut(got, impl.ExpoOut{Cells: l}) || !impl.CellsSame(got.Cells, l) || !impl.CellsRight(got.Cells) {
		t.Fatalf("%s: ExpoRead of %.300q: code %d, cells %+v, want %+v", what, text, got.Code, got.Cells, l)
	}
}

func wantUnread(t *testing.T, what string, text string, code int64) {
	t.Helper()
	if got := impl.ExpoRead(text); !sameExpoOut(got, impl.ExpoOut{Code: code}) {
		t.Errorf("%s: ExpoRead of %.300q: code %d and %d cells, want the code %d and none", what, text, got.Code, len(got.Cells), code)
	}
}

func wantNoText(t *testing.T, what string, l []impl.Cell) {
	t.Helper()
	if got := impl.ExpoText(l); got != "" {
		t.Errorf("%s: ExpoText is %.300q, want none", what, got)
	}
}

func cellOf(window int64, series string, a impl.Agg) impl.Cell {
	return impl.Cell{Window: window, Series: series, Agg: a}
}

func TestExpoText(t *testing.T) {
	counter := impl.Agg{Kind: impl.Counter, Samples: 2, Sum: impl.WideOf(-17)}
	gauge := impl.Agg{Kind: impl.Gauge, Samples: 3, Last: -1500000, LastAt: 8}
	histogram := impl.Agg{Kind: impl.Histogram, Samples: 4, Sketch: impl.Sketch{
		Zero: 5, Pos: []impl.Bin{{At: 1, Weight: 2}, {At: 278, Weight: 3}}, Neg: []impl.Bin{{At: 7, Weight: 1}}, Sum: impl.WideOf(-600),
	}}
	exact := impl.Agg{Kind: impl.Set, Samples: 5, Hll: impl.Hll{Exact: []uint64{0, 20, math.MaxUint64}}}
	regs := impl.Agg{Kind: impl.Set, Samples: 60, Hll: impl.Hll{Regs: withReg(1, 55)}}
	regsText := "d3,55" + strings.Repeat(",3", 62)
	for _, c := range []struct {
		what  string
		cells []impl.Cell
		text  string
	}{
		{"a Counter", []impl.Cell{cellOf(3, "a{}", counter)}, "# window 3\na{} c 2 -17\n# end\n"},
		{"a Gauge", []impl.Cell{cellOf(0, "b{x,y}", gauge)}, "# window 0\nb{x,y} g 3 -1.5 8\n# end\n"},
		{"a Histogram", []impl.Cell{cellOf(1000000000, "c{}", histogram)}, "# window 1000000000\nc{} h 4 5 1:2,278:3 7:1 -600\n# end\n"},
		{"a Set of hashes", []impl.Cell{cellOf(1, "d{a:1}", exact)}, "# window 1\nd{a:1} s 5 e0,20,18446744073709551615\n# end\n"},
		{"a Set of registers", []impl.Cell{cellOf(10, "e{}", regs)}, "# window 10\ne{} s 60 " + regsText + "\n# end\n"},
		{"all together",
			[]impl.Cell{cellOf(12, "a{}", counter), cellOf(12, "b{x,y}", gauge), cellOf(12, "c{}", histogram), cellOf(12, "d{a:1}", exact), cellOf(12, "e{}", regs)},
			"# window 12\na{} c 2 -17\nb{x,y} g 3 -1.5 8\nc{} h 4 5 1:2,278:3 7:1 -600\nd{a:1} s 5 e0,20,18446744073709551615\ne{} s 60 " + regsText + "\n# end\n"},
		{"no cells", nil, "# window 0\n# end\n"},
		{"an empty list", []impl.Cell{}, "# window 0\n# end\n"},
	} {
		wantBack(t, c.what, c.cells, c.text)
	}
}

func TestExpoTextAtTheEdges(t *testing.T) {
	least, greatest := impl.Wide{High: math.MinInt64}, impl.Wide{High: math.MaxInt64, Low: greatestWeight}
	for line, a := range map[string]impl.Agg{
		"a{} c 1 0":                                        {Kind: impl.Counter, Samples: 1},
		"a{} c 18446744073709551615 1":                     {Kind: impl.Counter, Samples: greatestWeight, Sum: impl.WideOf(1)},
		"a{} c 1 " + leastSum:                              {Kind: impl.Counter, Samples: 1, Sum: least},
		"a{} c 1 " + greatestSum:                           {Kind: impl.Counter, Samples: 1, Sum: greatest},
		"a{} g 1 0 0":                                      {Kind: impl.Gauge, Samples: 1},
		"a{} g 1 0 -1":                                     {Kind: impl.Gauge, Samples: 1, LastAt: -1},
		"a{} g 18446744073709551615 0.000001 1":            {Kind: impl.Gauge, Samples: greatestWeight, Last: 1, LastAt: 1},
		"a{} g 1 -0.000001 1000000000":                     {Kind: impl.Gauge, Samples: 1, Last: -1, LastAt: greatestTime},
		"a{} g 1 999999999999.999999 0":                    {Kind: impl.Gauge, Samples: 1, Last: impl.MaxValue},
		"a{} g 1 -999999999999.999999 7":                   {Kind: impl.Gauge, Samples: 1, Last: -impl.MaxValue, LastAt: 7},
		"a{} h 1 0 - - 0":                                  {Kind: impl.Histogram, Samples: 1},
		"a{} h 1 1 - - 0":                                  {Kind: impl.Histogram, Samples: 1, Sketch: impl.Sketch{Zero: 1}},
		"a{} h 2 18446744073709551615 - - " + leastSum:     {Kind: impl.Histogram, Samples: 2, Sketch: impl.Sketch{Zero: greatestWeight, Sum: least}},
		"a{} h 1 0 1:1 - " + greatestSum:                   {Kind: impl.Histogram, Samples: 1, Sketch: impl.Sketch{Pos: binsFrom(1, 1, 1), Sum: greatest}},
		"a{} h 1 0 - 6878:18446744073709551615 -5":         {Kind: impl.Histogram, Samples: 1, Sketch: impl.Sketch{Neg: []impl.Bin{{At: lastBin, Weight: greatestWeight}}, Sum: impl.WideOf(-5)}},
		"a{} h 1 0 1:18446744073709551615,6878:1 2:1 0":    {Kind: impl.Histogram, Samples: 1, Sketch: impl.Sketch{Pos: []impl.Bin{{At: 1, Weight: greatestWeight}, {At: lastBin, Weight: 1}}, Neg: binsFrom(2, 1, 1)}},
		"a{} s 1 e-":                                       {Kind: impl.Set, Samples: 1},
		"a{} s 1 e0":                                       {Kind: impl.Set, Samples: 1, Hll: impl.Hll{Exact: []uint64{0}}},
		"a{} s 18446744073709551615 e18446744073709551615": {Kind: impl.Set, Samples: greatestWeight, Hll: impl.Hll{Exact: []uint64{math.MaxUint64}}},
		"a{} s 1 d0" + strings.Repeat(",0", 63):            {Kind: impl.Set, Samples: 1, Hll: impl.Hll{Regs: allRegs(0)}},
		"a{} s 1 d55" + strings.Repeat(",55", 63):          {Kind: impl.Set, Samples: 1, Hll: impl.Hll{Regs: allRegs(impl.MaxReg)}},
	} {
		for _, window := range []int64{0, 1, greatestWindow - 1, greatestWindow} {
			wantBack(t, line, []impl.Cell{cellOf(window, "a{}", a)}, textWith(window, line))
		}
	}
}

// aggsWithSamples are those that a right cell may have.
func aggsWithSamples() []impl.Agg {
	var l []impl.Agg
	for _, a := range rightAggs() {
		if a.Samples > 0 {
			l = append(l, a)
		}
	}
	for _, kind := range allKinds {
		for seed := range uint64(12) {
			l = append(l, plainAgg(kind, someSamples(kind, seed, 1+int(seed*seed))))
		}
	}
	return l
}

func TestPromise21EachAggAlone(t *testing.T) {
	hundred := plainSeries(longSeries(100))
	for i, a := range aggsWithSamples() {
		for j, series := range []string{"a{}", "a.b_0{-,:,z}", hundred} {
			l := []impl.Cell{cellOf([]int64{0, 77, greatestWindow}[(i+j)%3], series, a)}
			wantBack(t, fmt.Sprintf("the Agg %d of %s", i, series), l, plainExpo(l))
		}
	}
}

// oneWindowLists are right cells of one Window each, whatever the size of their text.
func oneWindowLists() [][]impl.Cell {
	lists := [][]impl.Cell{nil, numbered(4, 1, 1), numbered(greatestWindow, impl.MaxSeries, impl.MaxSeries)}
	for _, l := range rightCells() {
		byWindow := map[int64][]impl.Cell{}
		for _, c := range l {
			byWindow[c.Window] = append(byWindow[c.Window], c)
		}
		for _, own := range byWindow {
			lists = append(lists, own)
		}
	}
	s := steps(40)
	aggs := aggsWithSamples()
	for range 120 {
		window := int64(s.next() % (greatestWindow + 1))
		var l []impl.Cell
		for i := range s.next() % (impl.MaxSeries + 1) {
			series := fmt.Sprintf("n%02d{%s}", i, []string{"", "x", "a:1,b"}[s.next()%3])
			l = append(l, cellOf(window, series, aggs[s.next()%uint64(len(aggs))]))
		}
		lists = append(lists, l)
	}
	return lists
}

func TestPromise21ManyTogether(t *testing.T) {
	long, short := 0, 0
	for i, l := range append(oneWindowLists(), sizedCells(t, 19000), sizedCells(t, 21000)) {
		what, text := fmt.Sprintf("list %d of %d cells", i, len(l)), plainExpo(l)
		if len(text) <= impl.MaxBytes {
			wantBack(t, what, l, text)
			short++
			continue
		}
		wantNoText(t, what, l)
		wantUnread(t, what, text, impl.ErrSize)
		long++
	}
	if long == 0 || short < 50 {
		t.Errorf("%d long texts and %d short ones", long, short)
	}
}

// TestPromise21OfAPipe tells the windows that a pipe closes.
func TestPromise21OfAPipe(t *testing.T) {
	p := impl.PipeNew([]string{"a", "b", "c"}, 10, 0)
	for i, line := range []string{"hits:2|c|@0.1", "hits:-5|c|#x|T3", "level:-0.25|g|T9", "took:7|h", "took:-300|h|T2", "took:0|h|T2", "users:ann|s", "users:bob|s|T10"} {
		got := impl.PipeLine(p, line)
		if got.Code != impl.OK {
			t.Fatalf("line %d: code %d", i, got.Code)
		}
		p = got.Pipe
	}
	for _, want := range []string{
		textWith(0, "hits{x} c 1 -5000000", "hits{} c 1 20000000", "level{} g 1 -0.25 9", "took{} h 3 1 "+binText(7000000)+" "+binText(300000000)+" -293000000", "users{} s 1 e"+fmt.Sprint(libraryHash("ann"))),
		textWith(1, "users{} s 1 e"+fmt.Sprint(libraryHash("bob"))),
		textWith(0),
	} {
		p = impl.PipeTick(p, 10)
		done := impl.PipeClose(p)
		if done.Code != impl.OK {
			t.Fatalf("PipeClose: code %d", done.Code)
		}
		wantBack(t, "a window that is closed", done.Cells, want)
		p = done.Pipe
	}
}

func binText(v int64) string {
	return fmt.Sprintf("%d:1", plainBin(v))
}

func TestExpoAboutMaxSeries(t *testing.T) {
	for _, many := range []int{impl.MaxSeries - 1, impl.MaxSeries, impl.MaxSeries + 1, impl.MaxSeries + 2, impl.MaxCells, impl.MaxCells + 1, impl.MaxList, impl.MaxList + 1, 2 * impl.MaxList} {
		var l []impl.Cell
		for i := range many {
			l = append(l, oneOf(9, fmt.Sprintf("n%03d{}", i), impl.Counter))
		}
		if many <= impl.MaxSeries {
			wantBack(t, fmt.Sprintf("%d cells", many), l, plainExpo(l))
			continue
		}
		wantNoText(t, fmt.Sprintf("%d cells", many), l)
		code := int64(impl.ErrSyntax)
		if len(plainExpo(l)) > impl.MaxBytes {
			code = impl.ErrSize
		}
		wantUnread(t, fmt.Sprintf("%d cells", many), plainExpo(l), code)
	}
}

// sizedCells have a text of just so many bytes, of some 9200 to 31000.
func sizedCells(t *testing.T, size int) []impl.Cell {
	t.Helper()
	var l []impl.Cell
	for i := range impl.MaxSeries {
		sketch := impl.Sketch{Pos: binsFrom(1000, 1, impl.MaxBins), Neg: binsFrom(6000, 1, impl.MaxBins), Sum: impl.WideOf(-9)}
		for j := range impl.MaxBins {
			sketch.Pos[j].Weight, sketch.Neg[j].Weight = 1, 1
		}
		l = append(l, cellOf(5, fmt.Sprintf("n%02d{}", i), impl.Agg{Kind: impl.Histogram, Samples: 1, Sketch: sketch}))
	}
	lacking := size - len(plainExpo(l))
	for i := range l {
		for _, bins := range [][]impl.Bin{l[i].Agg.Sketch.Pos, l[i].Agg.Sketch.Neg} {
			for j := range bins {
				for bins[j].Weight < 1e19 && lacking > 0 {
					bins[j].Weight *= 10
					lacking--
				}
			}
		}
	}
	if lacking != 0 || len(plainExpo(l)) != size || !impl.CellsRight(l) {
		t.Fatalf("a text of %d bytes, want %d", len(plainExpo(l)), size)
	}
	return l
}

func TestExpoAboutMaxBytes(t *testing.T) {
	for _, size := range []int{10000, impl.MaxBytes - 1, impl.MaxBytes} {
		l := sizedCells(t, size)
		wantBack(t, fmt.Sprintf("a text of %d bytes", size), l, plainExpo(l))
	}
	for _, size := range []int{impl.MaxBytes + 1, impl.MaxBytes + 2, 30000} {
		l := sizedCells(t, size)
		wantNoText(t, fmt.Sprintf("a text of %d bytes", size), l)
		wantUnread(t, fmt.Sprintf("a text of %d bytes", size), plainExpo(l), impl.ErrSize)
	}
	// The size is looked for ahead of all else.
	for _, text := range []string{"x", "\n", " ", "# window 0\n# end\n", "# end\n", "a{} c 1 1\n", "0", "\x00", "é"} {
		most := strings.Repeat(text, impl.MaxBytes/len(text))
		most += strings.Repeat("x", impl.MaxBytes-len(most))
		wantUnread(t, "MaxBytes bytes", most, impl.ErrSyntax)
		wantUnread(t, "MaxBytes and 1 bytes", most+"x", impl.ErrSize)
		wantUnread(t, "far more bytes", most+most, impl.ErrSize)
	}
	full := plainExpo(sizedCells(t, impl.MaxBytes))
	wantUnread(t, "one line feed too many, and a byte", full+"\n", impl.ErrSize)
	wantUnread(t, "a needless nought, and a byte", strings.Replace(full, " 1 ", " 01 ", 1), impl.ErrSize)
	wantUnread(t, "a needless nought, and no byte", strings.Replace(plainExpo(sizedCells(t, impl.MaxBytes-1)), " 1 ", " 01 ", 1), impl.ErrSyntax)
}

func TestWrongCellsHaveNoText(t *testing.T) {
	for what, l := range wrongCells() {
		kept := cloneCells(l)
		wantNoText(t, what, l)
		if !sameCells(l, kept) {
			t.Errorf("%s: it is changed", what)
		}
	}
	for _, kind := range allKinds {
		a, b, c := oneOf(5, "a{}", kind), oneOf(5, "b{}", kind), oneOf(6, "c{}", kind)
		wantNoText(t, "two Windows", []impl.Cell{a, c})
		wantNoText(t, "two Windows, the last one apart", []impl.Cell{a, b, c})
		wantNoText(t, "two Windows, of one Series", []impl.Cell{a, oneOf(6, "a{}", kind)})
		wantNoText(t, "two Windows, the first one apart", []impl.Cell{oneOf(4, "a{}", kind), a, b})
		wantNoText(t, "the least Window and the greatest", []impl.Cell{oneOf(0, "a{}", kind), oneOf(greatestWindow, "a{}", kind)})
		wantNoText(t, "three Windows", []impl.Cell{oneOf(4, "z{}", kind), a, c})
		wantNoText(t, "falling Series", []impl.Cell{b, a})
		wantNoText(t, "one cell twice", []impl.Cell{a, a})
	}
}

// TestTextsOfWrongCells reads what cells that are not right would be told as, where that shows the fault.
func TestTextsOfWrongCells(t *testing.T) {
	wanted := func(what string, a impl.Agg) {
		for _, l := range [][]impl.Cell{{cellOf(7, "m{}", a)}, {oneOf(7, "a{}", 1), cellOf(7, "m{}", a), oneOf(7, "z{}", 4)}} {
			if text := plainExpo(l); len(text) <= impl.MaxBytes {
				wantUnread(t, what, text, impl.ErrSyntax)
			}
		}
	}
	for what, sketch := range wrongSketches() {
		wanted(what, impl.Agg{Kind: impl.Histogram, Samples: 2, Sketch: sketch})
	}
	for what, hll := range wrongHlls() {
		if len(hll.Exact) == 0 || len(hll.Regs) == 0 {
			wanted(what, impl.Agg{Kind: impl.Set, Samples: 2, Hll: hll})
		}
	}
	for what, a := range wrongAggs() {
		if shown := (impl.Agg{Kind: impl.Gauge, Samples: 1, Last: a.Last, LastAt: a.LastAt}); sameAgg(a, shown) {
			wanted(what, shown)
		}
	}
	for _, kind := range allKinds {
		a := plainAgg(kind, someSamples(kind, 3, 9))
		a.Samples = 0
		wanted("no Samples", a)
		for _, window := range noWindows {
			wantUnread(t, "no window", plainExpo([]impl.Cell{oneOf(window, "a{}", kind)}), impl.ErrSyntax)
		}
	}
}

// exampleLines are of each kind, and rise.
func exampleLines() []string {
	return []string{
		"a{} c 2 -17",
		"b{x,y} g 3 -1.5 8",
		"c{z} h 1 0 - - 0",
		"c{} h 4 5 1:2,278:3 7:1,6878:9 -600",
		"d{} s 2 e1,20",
		"e{} s 50 d0,55" + strings.Repeat(",7", impl.Regs-2),
	}
}

var (
	wrongCounts = []string{"", "-", "00", "01", "+1", "-1", "-0", "1.0", "1e3", "0x1", "1_0", "a", "1a", "a1", "\uff11", "1\t", "1\r", "18446744073709551616", "99999999999999999999999", "1,1", "1:1"}
	wrongWides  = []string{"", "-", "-0", "00", "01", "+1", "-01", "--1", "1.0", "1.5", "1e3", "0x1", "1_0", "x", "1-", "170141183460469231731687303715884105728", "-170141183460469231731687303715884105729", "340282366920938463463374607431768211456", "1:1"}
	noValueText = []string{"", "-", "-0", "-0.0", "0.0", "1.50", "-1.50", "1.0", "1.", ".5", "-.5", "01", "-01.5", "+1", "--1", "1.1234567", "1000000000000", "-1000000000000", "1e3", "1,5", "1.5.5", "x", "1.000000"}
	wrongTimes  = []string{"", "-", "-0", "-1", "-2", "00", "08", "+8", "-01", "1.0", "8.5", "1e3", "x", "1000000001", "-1000000000", "9223372036854775808", "18446744073709551616"}
	wrongBins   = []string{"", "1", ":", "1:", ":1", "1:0", "0:1", "-1:1", "6879:1", "7000:1", "01:1", "1:01", "+1:1", "1:+1", "1:-1", "1:2,", ",1:2", "1:2,,3:4", "2:1,1:1", "2:1,2:1", "1:1,5:1,4:1", "1:1:1", "--", "1:1,-", "-,1:1", "-:-", "1:18446744073709551616", "9223372036854775808:1", "18446744073709551617:1", "1-1", "1:1;2:1", "1:1.2:1", "x:1", "1:x", "0:0", "1:1.0"}
	wrongHllsAs = []string{"", "e", "d", "-", "d-", "e,", "e1,", "e,1", "e1,,2", "e2,1", "e1,1", "e1,5,4", "e01", "e+1", "e-1", "e--", "e1,-", "e-,1", "e18446744073709551616", "e1:1", "e1;2", "e1.0", "ex", "E1", "f1", "1,20", "ee1", "ed1", "-e1", "d0", "d1,2", "d,", "h1", "e 1"}
	wrongKinds  = []string{"", "C", "x", "cc", "cg", "sc", "k", "0", "1", "2", "-", "\u00e7", "c,"}
	wrongSeries = []string{"", "a", "{}", "a{", "a}", "A{}", "0{}", "_{}", "a{}}", "{}{}", "a{}b", "a{,}", "a{a,}", "a{,a}", "a{b,a}", "a{a,a}", "a{B}", "a-{}", "a:1{}", "a{a;b}", "a{\u00e9}", "\u00e9{}", "#", "#{}", "a{}\t", "a{0,1,2,3,4,5,6,7,8}", "a{aaaaaaaaaaaaaaaaaaaaa}"}
)

// listOf is so many numbers, with `,` between.
func listOf(many int, tell func(i int) string) string {
	var l []string
	for i := range many {
		l = append(l, tell(i))
	}
	return strings.Join(l, ",")
}

func manyWrongHlls() []string {
	l := slices.Clone(wrongHllsAs)
	l = append(l, "e"+listOf(impl.MaxExact+1, strconv.Itoa))
	for _, many := range []int{1, impl.Regs - 1, impl.Regs + 1, 2 * impl.Regs} {
		l = append(l, "d"+listOf(many, func(int) string { return "1" }))
	}
	for _, reg := range []string{"-1", "56", "00", "01", "+1", "-0", "", "-", "x", "1.0", "9223372036854775808"} {
		for _, at := range []int{0, 30, impl.Regs - 1} {
			l = append(l, "d"+listOf(impl.Regs, func(i int) string {
				if i == at {
					return reg
				}
				return "1"
			}))
		}
	}
	return l
}

// wrongWords are by line and place of a word what may not stand there.
func wrongWords() [][][]string {
	samples := append(slices.Clone(wrongCounts), "0")
	bins := append(slices.Clone(wrongBins), listOf(impl.MaxBins+1, func(i int) string { return fmt.Sprintf("%d:1", i+1) }))
	hlls := manyWrongHlls()
	long := plainSeries(longSeries(100))
	series := append(slices.Clone(wrongSeries), "n"+long, strings.Repeat("a", 41)+"{}")
	kinds := append(slices.Clone(wrongKinds), "c", "g", "h", "s")
	histogram := [][]string{series, kinds, samples, wrongCounts, bins, bins, wrongWides}
	set := [][]string{series, kinds, samples, hlls}
	return [][][]string{
		{series, kinds, samples, wrongWides},
		{series, kinds, samples, noValueText, wrongTimes},
		histogram, histogram, set, set,
	}
}

// wantWrongLine has a wrong line alone, and in the place of one of the example lines.
func wantWrongLine(t *testing.T, what string, at int, line string) {
	t.Helper()
	wantUnread(t, what+", alone", textWith(3, line), impl.ErrSyntax)
	lines := exampleLines()
	lines[at] = line
	wantUnread(t, what+", among others", textWith(3, lines...), impl.ErrSyntax)
}

func TestExampleLines(t *testing.T) {
	lines := exampleLines()
	for _, window := range []int64{0, 3, greatestWindow} {
		got := impl.ExpoRead(textWith(window, lines...))
		if got.Code != impl.OK || len(got.Cells) != len(lines) || impl.ExpoText(got.Cells) != textWith(window, lines...) {
			t.Fatalf("the example lines: %+v", got)
		}
		for i, line := range lines {
			one := impl.ExpoRead(textWith(window, line))
			if one.Code != impl.OK || len(one.Cells) != 1 || !sameCells(one.Cells, got.Cells[i:i+1]) {
				t.Fatalf("the line %q alone: %+v", line, one)
			}
		}
	}
}

func TestWrongWordsOfALine(t *testing.T) {
	for at, places := range wrongWords() {
		words := strings.Split(exampleLines()[at], " ")
		if len(words) != len(places) {
			t.Fatalf("line %d has %d words, want %d", at, len(words), len(places))
		}
		for place, wrong := range places {
			for _, word := range wrong {
				if word == words[place] {
					continue
				}
				other := slices.Clone(words)
				other[place] = word
				wantWrongLine(t, fmt.Sprintf("the word %d is %.60q", place, word), at, strings.Join(other, " "))
			}
		}
	}
}

func TestTooFewAndTooManyWords(t *testing.T) {
	for at, line := range exampleLines() {
		words := strings.Split(line, " ")
		for place := range words {
			wantWrongLine(t, fmt.Sprintf("without the word %d", place), at, strings.Join(slices.Delete(slices.Clone(words), place, place+1), " "))
			wantWrongLine(t, fmt.Sprintf("the words up to %d", place), at, strings.Join(words[:place], " "))
			wantWrongLine(t, fmt.Sprintf("the word %d twice", place), at, strings.Join(slices.Insert(slices.Clone(words), place, words[place]), " "))
		}
		for place := 1; place < len(words); place++ {
			wantWrongLine(t, "without a blank", at, strings.Join(words[:place], " ")+strings.Join(words[place:], " "))
		}
		for place := range len(words) + 1 {
			for _, more := range []string{"", "0", "1", "-", "x", "e-", "c", "#"} {
				wantWrongLine(t, fmt.Sprintf("%q ahead of the word %d", more, place), at, strings.Join(slices.Insert(slices.Clone(words), place, more), " "))
			}
		}
		wantWrongLine(t, "tabs", at, strings.ReplaceAll(line, " ", "\t"))
		wantWrongLine(t, "a carriage return", at, line+"\r")
	}
	for _, line := range []string{"", " ", "#", "# end", "# window 3", "# a{} c 2 -17", "-", "a{}", "\x00"} {
		wantWrongLine(t, fmt.Sprintf("the line %q", line), 0, line)
	}
}

func TestWrongFirstAndLastLines(t *testing.T) {
	for _, between := range []string{"", exampleLines()[0] + "\n", strings.Join(exampleLines(), "\n") + "\n"} {
		for _, first := range []string{
			"", "\n", "# window\n", "# window \n", "# window -1\n", "# window -0\n", "# window 00\n", "# window 01\n", "# window +1\n",
			"# window 1000000001\n", "# window 9223372036854775808\n", "# window 18446744073709551616\n", "# window 3 \n", "# window  3\n",
			" # window 3\n", "#window 3\n", "# Window 3\n", "# window 3x\n", "# window 3.0\n", "# window 1e3\n", "window 3\n", "# windows 3\n",
			"# window3\n", "# window 3 4\n", "# window\t3\n", "# window 3\r\n", "# window 3", "# window 3\n\n", "\n# window 3\n", "# end\n",
			"# window 3\n# window 3\n", "# window 3\n# end\n", "## window 3\n", "# window x\n", "# window 0x3\n", "# window 1_0\n", "\ufeff# window 0\n",
		} {
			wantUnread(t, "a wrong first line", first+between+"# end\n", impl.ErrSyntax)
		}
		for _, last := range []string{
			"", "\n", "# end", "# end\n\n", "\n# end\n", "# End\n", "#end\n", "# end \n", " # end\n", "# ends\n", "# en\n", "end\n", "# end\r\n",
			"# end\n# end\n", "# end\nx", "# end\nx\n", "# end 0\n", "# window 0\n", "#  end\n", "# end\t\n", "# end\n ", "# end\x00\n", "#\n",
		} {
			wantUnread(t, "a wrong last line", "# window 0\n"+between+last, impl.ErrSyntax)
		}
	}
	for _, window := range []int64{1, 2, 10, greatestWindow} {
		wantUnread(t, "no cells of another Window than 0", textWith(window), impl.ErrSyntax)
	}
	for _, text := range []string{"", "\n", " ", "-", "#", "# end\n", "# window 0\n", "# window 0\n# end", "# window 0", "# window 0# end\n", "# window \n# end\n", "# window # end\n", "# window 0\n\n# end\n", "a{} c 1 1\n"} {
		wantUnread(t, "a text that is none", text, impl.ErrSyntax)
	}
}

func TestLineFeeds(t *testing.T) {
	text := textWith(3, exampleLines()...)
	for at := range len(text) {
		if text[at] != '\n' {
			continue
		}
		wantUnread(t, "a line feed lacks", text[:at]+text[at+1:], impl.ErrSyntax)
		wantUnread(t, "a line feed too many", text[:at]+"\n"+text[at:], impl.ErrSyntax)
		wantUnread(t, "a blank for a line feed", text[:at]+" "+text[at+1:], impl.ErrSyntax)
		wantUnread(t, "a carriage return too many", text[:at]+"\r"+text[at:], impl.ErrSyntax)
	}
	wantUnread(t, "a line feed ahead", "\n"+text, impl.ErrSyntax)
	wantUnread(t, "twice", text+text, impl.ErrSyntax)
	for at := range len(text) {
		wantUnread(t, "a beginning", text[:at], impl.ErrSyntax)
		wantUnread(t, "an end", text[at+1:], impl.ErrSyntax)
	}
}

func TestLinesThatDoNotRise(t *testing.T) {
	lines := exampleLines()
	for i := range lines {
		for j := range lines {
			if i == j {
				twice := slices.Insert(slices.Clone(lines), i, lines[i])
				wantUnread(t, "a line twice", textWith(3, twice...), impl.ErrSyntax)
				continue
			}
			swapped := slices.Clone(lines)
			swapped[i], swapped[j] = swapped[j], swapped[i]
			wantUnread(t, "two lines swapped", textWith(3, swapped...), impl.ErrSyntax)
		}
	}
	wantUnread(t, "one Series, unlike Kinds", textWith(3, "a{} c 1 1", "a{} g 1 1 1"), impl.ErrSyntax)
	wantUnread(t, "falling by a tag", textWith(3, "a{} c 1 1", "a{b} c 1 1"), impl.ErrSyntax)
	if got := impl.ExpoRead(textWith(3, "a{b} c 1 1", "a{} c 1 1")); got.Code != impl.OK || len(got.Cells) != 2 {
		t.Errorf("rising by a tag: %+v", got)
	}
}

// TestExpoReadAsByPatterns changes texts a little: what is still right, and what not, patterns tell.
func TestExpoReadAsByPatterns(t *testing.T) {
	check := func(text string) bool {
		got, want := impl.ExpoRead(text), plainExpoRead(text)
		if !sameExpoOut(got, want) {
			t.Errorf("ExpoRead(%.300q): code %d, cells %+v, want the code %d, cells %+v", text, got.Code, got.Cells, want.Code, want.Cells)
		}
		if got.Code == impl.OK && plainExpo(got.Cells) != text {
			t.Errorf("ExpoRead(%.300q): cells of another text: %.300q", text, plainExpo(got.Cells))
		}
		return got.Code == impl.OK
	}
	right := 0
	texts := []string{textWith(0), textWith(10, exampleLines()...)}
	for _, line := range exampleLines() {
		texts = append(texts, textWith(7, line))
	}
	for _, text := range texts {
		if !check(text) {
			t.Errorf("%q is refused", text)
		}
		for at := range len(text) {
			for _, c := range "019-+.,:{} \n#abcdeghsz\t\x00" {
				for _, other := range []string{text[:at] + string(c) + text[at+1:], text[:at] + string(c) + text[at:], text[:at] + text[at+1:]} {
					if check(other) {
						right++
					}
				}
			}
		}
	}
	s := steps(77)
	for range 3000 {
		text := []byte(texts[s.next()%uint64(len(texts))])
		for range 2 + s.next()%3 {
			at := s.next() % uint64(len(text))
			text[at] = text[s.next()%uint64(len(text))]
		}
		if check(string(text)) {
			right++
		}
	}
	if right < 100 {
		t.Errorf("only %d of the changed texts are right", right)
	}
}

func TestExpoReadOfAnyBytes(t *testing.T) {
	s := steps(5)
	for range 2000 {
		var text []byte
		for range s.next() % 200 {
			text = append(text, "# windoe0123456789acghs{}:,.- \n\xff"[s.next()%32])
		}
		wantUnread(t, "any bytes", string(text), impl.ErrSyntax)
		wantUnread(t, "any bytes between", "# window 0\n"+string(text)+"!\n# end\n", impl.ErrSyntax)
	}
}

func TestExpoIsNewMemory(t *testing.T) {
	for i, l := range oneWindowLists() {
		// Room behind a list belongs to whoever handed it in.
		given := append(cloneCells(l), cellsFrom(0, 5)...)
		kept := cloneCells(given)
		text := impl.ExpoText(given[:len(l)])
		if text == "" {
			continue
		}
		first, again := impl.ExpoRead(text), impl.ExpoRead(text)
		if spoilCells(first.Cells) {
			t.Fatalf("list %d: two lists of an answer share memory", i)
		}
		if !sameExpoOut(again, impl.ExpoOut{Cells: l}) || impl.ExpoText(l) != text {
			t.Fatalf("list %d: another answer is changed", i)
		}
		if !sameCells(given, kept) {
			t.Fatalf("list %d is changed", i)
		}
	}
}

// TestExpoKeepsNothing has refused texts and cells in between.
func TestExpoKeepsNothing(t *testing.T) {
	l := numbered(8, 12, 12)
	text := plainExpo(l)
	for _, wrong := range []string{"", text[1:], text + "\n", textWith(3, append(exampleLines(), "x")...), strings.Repeat(text, 40)} {
		impl.ExpoRead(wrong)
		impl.ExpoText(append(cloneCells(l), oneOf(9, "a{}", impl.Set)))
		wantBack(t, "behind what is refused", l, text)
	}
}
