package tests

import (
	"fmt"
	"math"
	"slices"
	"strings"
	"testing"

	"loop.example/g00309/impl"
)

// lineEnds are what stands behind a line's name, of each kind.
var lineEnds = []string{"1|c", "1|g", "1|h", "one|s"}

// Members that share most Series about evenly; the marks of single letters lie close together, so that
// one of them has nearly all.
var (
	evenTwo   = []string{"left", "right"}
	evenThree = []string{"one", "three", "two"}
)

var tooLong = strings.Repeat("a", impl.MaxBytes+1)

func sameShards(a []impl.Shard, b []impl.Shard) bool {
	return slices.EqualFunc(a, b, func(s impl.Shard, o impl.Shard) bool {
		return s.Name == o.Name && sameCells(s.Cells, o.Cells)
	})
}

func samePipe(a impl.Pipe, b impl.Pipe) bool {
	if a.Width != b.Width || a.Grace != b.Grace || a.Now != b.Now || a.Closed != b.Closed {
		return false
	}
	return sameShards(a.Shards, b.Shards)
}

func samePipeOut(a impl.PipeOut, b impl.PipeOut) bool {
	return a.Code == b.Code && samePipe(a.Pipe, b.Pipe) && sameCells(a.Cells, b.Cells)
}

func clonePipe(p impl.Pipe) impl.Pipe {
	p.Shards = slices.Clone(p.Shards)
	for i := range p.Shards {
		p.Shards[i].Cells = cloneCells(p.Shards[i].Cells)
	}
	return p
}

// laid has each cell with its owner among the members; the Shards of p are not looked at.
func laid(p impl.Pipe, members []string, cells []impl.Cell) impl.Pipe {
	own := map[string][]impl.Cell{}
	for _, c := range cells {
		owner := plainOwner(members, c.Series)
		own[owner] = append(own[owner], c)
	}
	p.Shards = nil
	for _, name := range members {
		p.Shards = append(p.Shards, impl.Shard{Name: name, Cells: own[name]})
	}
	return p
}

func membersOf(p impl.Pipe) []string {
	var names []string
	for _, s := range p.Shards {
		names = append(names, s.Name)
	}
	return names
}

// plainPipe has the samples of all windows that are not closed at hand, apart from the program's way.
type plainPipe struct {
	members                   []string
	width, grace, now, closed int64
	open                      []placed
}

func (m plainPipe) cells() []impl.Cell {
	return plainCells(m.open)
}

func (m plainPipe) pipe() impl.Pipe {
	return laid(impl.Pipe{Width: m.width, Grace: m.grace, Now: m.now, Closed: m.closed}, m.members, m.cells())
}

// stamped is what a right line tells, with the time and the window that it has here.
func (m plainPipe) stamped(text string) placed {
	x := plainLine(text).Sample
	if !x.Timed {
		x.Timed, x.Time = true, m.now
	}
	return placed{x.Time / m.width, x}
}

func (m *plainPipe) line(text string) int64 {
	if read := plainLine(text); read.Code != impl.OK {
		return read.Code
	}
	p := m.stamped(text)
	all, inWindow, kind := map[string]bool{}, map[string]bool{}, int64(0)
	for _, o := range m.open {
		all[fmt.Sprint(o.window, o.sample.Series)] = true
		if o.window == p.window {
			inWindow[o.sample.Series] = true
		}
		if o.window == p.window && o.sample.Series == p.sample.Series {
			kind = o.sample.Kind
		}
	}
	switch {
	case p.window < m.closed:
		return impl.ErrLate
	case p.sample.Time > m.now+m.width:
		return impl.ErrRange
	case kind == 0 && (len(inWindow) == impl.MaxSeries || len(all) == impl.MaxCells):
		return impl.ErrFull
	case kind != 0 && kind != p.sample.Kind:
		return impl.ErrKind
	}
	m.open = append(m.open, p)
	return impl.OK
}

func (m *plainPipe) tick(n int64) {
	if n >= 0 && n <= greatestTime && m.now+n <= greatestTime {
		m.now += n
	}
}

func (m *plainPipe) join(member string) int64 {
	switch {
	case !impl.NameRight(member):
		return impl.ErrForm
	case slices.Contains(m.members, member):
		return impl.ErrThere
	case len(m.members) == impl.MaxMembers:
		return impl.ErrFull
	}
	m.members = append(slices.Clone(m.members), member)
	slices.Sort(m.members)
	return impl.OK
}

func (m *plainPipe) leave(member string) int64 {
	switch {
	case !impl.NameRight(member):
		return impl.ErrForm
	case !slices.Contains(m.members, member):
		return impl.ErrNone
	case len(m.members) == 1:
		return impl.ErrFull
	}
	m.members = slices.DeleteFunc(slices.Clone(m.members), func(name string) bool { return name == member })
	return impl.OK
}

func (m *plainPipe) close() ([]impl.Cell, int64) {
	if m.now < (m.closed+1)*m.width+m.grace {
		return nil, impl.ErrLate
	}
	var own, others []placed
	for _, p := range m.open {
		if p.window == m.closed {
			own = append(own, p)
		} else {
			others = append(others, p)
		}
	}
	m.open = others
	m.closed++
	return plainCells(own), impl.OK
}

// numbered are so many cells from one window on, each of another Series, so many of them a window.
func numbered(window int64, many int, each int) []impl.Cell {
	var l []impl.Cell
	for i := range many {
		l = append(l, oneOf(window+int64(i/each), fmt.Sprintf("n%02d{}", i), allKinds[i%4]))
	}
	return l
}

// rightPipes are at the edges of what is right: of each number of members, full and empty, early and late.
func rightPipes() []impl.Pipe {
	var l []impl.Pipe
	full := numbered(0, impl.MaxCells, impl.MaxSeries)
	for _, members := range rightMembers() {
		l = append(l, laid(impl.Pipe{Width: 10, Grace: 5}, members, nil))
		l = append(l, laid(impl.Pipe{Width: 10, Grace: 5, Now: 25}, members, plainCells(somePlaced(3, 40))))
		l = append(l, laid(impl.Pipe{Width: 1, Grace: 0, Now: greatestTime}, members, full))
	}
	two, all := evenTwo, spreadNames(impl.MaxMembers)
	for _, width := range []int64{1, 2, 999, 1000} {
		for _, grace := range []int64{0, 1, 999, 1000} {
			l = append(l, laid(impl.Pipe{Width: width, Grace: grace, Now: 7}, two, full))
		}
	}
	for _, now := range []int64{0, 1, greatestTime - 1, greatestTime} {
		for _, closed := range []int64{0, 1, greatestWindow - 1, greatestWindow} {
			l = append(l, laid(impl.Pipe{Width: 3, Now: now, Closed: closed}, all, numbered(closed, impl.MaxSeries, impl.MaxSeries)))
			l = append(l, laid(impl.Pipe{Width: 3, Now: now, Closed: closed}, two, []impl.Cell{oneOf(greatestWindow, "z{}", impl.Set)}))
		}
	}
	for _, cells := range rightCells() {
		l = append(l, laid(impl.Pipe{Width: 60, Grace: 60, Now: 60}, []string{"a", "m", "zz"}, cells))
	}
	none := laid(impl.Pipe{Width: 5, Grace: 5}, two, nil)
	none.Shards[0].Cells = []impl.Cell{}
	return append(l, none)
}

// clockFaults have each a number out of its bounds.
func clockFaults() map[string]func(*impl.Pipe) {
	m := map[string]func(*impl.Pipe){}
	put := func(what string, n int64, change func(*impl.Pipe)) {
		m[fmt.Sprintf("%s %d", what, n)] = change
	}
	for _, n := range []int64{math.MinInt64, -1000, -1, 0, 1001, 1 << 32, 1<<32 + 5, math.MaxInt64} {
		put("Width", n, func(p *impl.Pipe) { p.Width = n })
	}
	for _, n := range []int64{math.MinInt64, -1000, -1, 1001, 1 << 32, 1<<32 + 5, math.MaxInt64} {
		put("Grace", n, func(p *impl.Pipe) { p.Grace = n })
	}
	for _, n := range []int64{math.MinInt64, -1, greatestTime + 1, 1 << 32, math.MaxInt64} {
		put("Now", n, func(p *impl.Pipe) { p.Now = n })
		put("Closed", n, func(p *impl.Pipe) { p.Closed = n })
	}
	return m
}

// misplaced have right Shards of right Names, and cells that may not lie as they do.
func misplaced() map[string]impl.Pipe {
	base := impl.Pipe{Width: 10, Grace: 5, Now: 700, Closed: 3}
	members := evenThree
	with := func(cells ...impl.Cell) impl.Pipe {
		sortCells(cells)
		return laid(base, members, cells)
	}
	m := map[string]impl.Pipe{
		"a window below Closed":            with(oneOf(2, "x{}", 1)),
		"a window below Closed, of others": with(append(numbered(3, 9, 9), oneOf(2, "x{}", 1))...),
		"the window 0":                     with(oneOf(0, "x{}", 1)),
		"MaxSeries and 1 in a window":      with(numbered(7, impl.MaxSeries+1, impl.MaxSeries+1)...),
		"MaxSeries and 1 in the last one":  with(append(numbered(7, 5, 5), cellsIn(9, impl.MaxSeries+1)...)...),
		"MaxCells in a window":             with(cellsIn(7, impl.MaxCells)...),
		"MaxCells and 1 in all":            with(numbered(7, impl.MaxCells+1, impl.MaxSeries)...),
		"MaxCells and 1, one a window":     with(numbered(7, impl.MaxCells+1, 1)...),
		"MaxCells and 20 in all":           with(numbered(7, impl.MaxCells+20, 2)...),
	}
	for what, p := range m {
		for _, s := range p.Shards {
			if !impl.ShardRight(s) {
				panic(what + ": the fault is not the one that is named")
			}
		}
	}
	for i := range members {
		p := with(numbered(7, 12, 4)...)
		from, to := &p.Shards[i], &p.Shards[(i+1)%len(members)]
		to.Cells = append(to.Cells, from.Cells[0])
		from.Cells = from.Cells[1:]
		sortCells(to.Cells)
		m["a cell with another than its owner, of "+members[i]] = p
		q := with(numbered(7, 12, 4)...)
		q.Shards[i].Cells, q.Shards[(i+1)%len(members)].Cells = q.Shards[(i+1)%len(members)].Cells, q.Shards[i].Cells
		m["cells exchanged, of "+members[i]] = q
		twice := with(numbered(7, 12, 4)...)
		twice.Shards[(i+1)%len(members)].Cells = cloneCells(twice.Shards[i].Cells)
		m["cells with two members, of "+members[i]] = twice
	}
	return m
}

// cellsIn are so many of one window.
func cellsIn(window int64, many int) []impl.Cell {
	return numbered(window, many, many)
}

// wrongPipes have one fault each.
func wrongPipes() map[string]impl.Pipe {
	m := misplaced()
	m["the zero Pipe"] = impl.Pipe{}
	m["no Shards"] = impl.Pipe{Width: 10, Grace: 5}
	m["an empty list of Shards"] = impl.Pipe{Shards: []impl.Shard{}, Width: 10, Grace: 5}
	base := func() impl.Pipe {
		return laid(impl.Pipe{Width: 10, Grace: 5, Now: 90, Closed: 1}, evenTwo, numbered(2, 8, 3))
	}
	for what, change := range clockFaults() {
		p := base()
		if strings.HasPrefix(what, "Closed") {
			// Without cells, no window can be below it.
			p = laid(p, evenTwo, nil)
		}
		change(&p)
		m[what] = p
	}
	for what, members := range wrongMembers() {
		p := impl.Pipe{Width: 10, Grace: 5}
		for _, name := range members {
			p.Shards = append(p.Shards, impl.Shard{Name: name})
		}
		m["members: "+what] = p
	}
	for what, cells := range wrongCells() {
		m["alone: "+what] = impl.Pipe{Shards: []impl.Shard{{Name: "a", Cells: cells}}, Width: 10, Grace: 5}
		p := laid(impl.Pipe{Width: 10, Grace: 5}, evenTwo, nil)
		p.Shards[1].Cells = cells
		m["second: "+what] = p
	}
	return m
}

func wantPipe(t *testing.T, what string, got impl.PipeOut, want impl.Pipe, cells []impl.Cell) {
	t.Helper()
	if !samePipeOut(got, impl.PipeOut{Pipe: want, Cells: cells}) {
		t.Fatalf("%s: %+v, want the Pipe %+v and the cells %+v", what, got, want, cells)
	}
	if !impl.PipeRight(got.Pipe) || !impl.CellsRight(got.Cells) {
		t.Fatalf("%s: %+v is not right", what, got)
	}
}

func wantFault(t *testing.T, what string, got impl.PipeOut, code int64) {
	t.Helper()
	if !samePipeOut(got, impl.PipeOut{Code: code}) {
		t.Errorf("%s: %+v, want the code %d and nothing else", what, got, code)
	}
}

func TestPipeNew(t *testing.T) {
	for _, members := range rightMembers() {
		for _, width := range []int64{1, 2, 10, 999, 1000} {
			for _, grace := range []int64{0, 1, 5, 999, 1000} {
				got := impl.PipeNew(members, width, grace)
				if want := laid(impl.Pipe{Width: width, Grace: grace}, members, nil); !samePipe(got, want) || !impl.PipeRight(got) {
					t.Fatalf("PipeNew(%q, %d, %d): %+v", members, width, grace, got)
				}
			}
		}
	}
	for what, members := range wrongMembers() {
		if got := impl.PipeNew(members, 10, 5); !samePipe(got, impl.Pipe{}) {
			t.Errorf("PipeNew of %.60q: %+v", what, got)
		}
	}
	for _, n := range []int64{math.MinInt64, -1000, -1, 1001, 1 << 32, 1<<32 + 5, math.MaxInt64} {
		for _, p := range []impl.Pipe{impl.PipeNew([]string{"a"}, n, 5), impl.PipeNew([]string{"a"}, 5, n), impl.PipeNew([]string{"a"}, n, n)} {
			if !samePipe(p, impl.Pipe{}) {
				t.Errorf("PipeNew with the width or grace %d: %+v", n, p)
			}
		}
	}
	if got := impl.PipeNew([]string{"a"}, 0, 0); !samePipe(got, impl.Pipe{}) {
		t.Errorf("PipeNew with the width 0: %+v", got)
	}
}

func TestPipeRight(t *testing.T) {
	for i, p := range rightPipes() {
		if !impl.PipeRight(p) {
			t.Errorf("PipeRight of the pipe %d: false: %+v", i, p)
		}
	}
}

func TestWrongPipes(t *testing.T) {
	for what, p := range wrongPipes() {
		kept := clonePipe(p)
		if impl.PipeRight(p) {
			t.Errorf("%.60s: right", what)
		}
		wantFault(t, what+": PipeLine", impl.PipeLine(p, "hits:1|c"), impl.ErrForm)
		wantFault(t, what+": PipeJoin", impl.PipeJoin(p, "new"), impl.ErrForm)
		wantFault(t, what+": PipeLeave", impl.PipeLeave(p, "a"), impl.ErrForm)
		wantFault(t, what+": PipeClose", impl.PipeClose(p), impl.ErrForm)
		if got := impl.PipeCells(p); len(got) != 0 {
			t.Errorf("%.60s: PipeCells: %d of them", what, len(got))
		}
		for _, n := range []int64{0, 1, 15, -1, greatestTime} {
			if got := impl.PipeTick(p, n); !samePipe(got, kept) {
				t.Errorf("%.60s: PipeTick by %d: %+v, want it as it is", what, n, got)
			}
		}
		if !samePipe(p, kept) {
			t.Errorf("%.60s: it is changed", what)
		}
	}
}

func TestPipeLine(t *testing.T) {
	p := impl.PipeNew(evenThree, 10, 5)
	p = impl.PipeTick(p, 27)
	for _, text := range []string{
		"hits:2.5|c|@0.5|#de,at", "level:-4|g|T19", "took:0.000257|h", "users:ann|s|T30", "hits:1|c|#at,de,at|T20", "level:9|g|T11",
		"took:-1|h|@0.25|T37", "users:bob|s|T30", "level:3|g", "users:ann|s|T30", "hits:1|c", "took:0|h|T20",
	} {
		got := impl.PipeLine(p, text)
		if got.Code != impl.OK || len(got.Cells) != 0 || !impl.PipeRight(got.Pipe) {
			t.Fatalf("PipeLine of %q: %+v", text, got)
		}
		p = got.Pipe
	}
	hashes := []uint64{libraryHash("ann"), libraryHash("bob")}
	slices.Sort(hashes)
	at2 := impl.Sketch{Zero: 1, Pos: []impl.Bin{{At: 256, Weight: 1}}, Sum: impl.WideOf(257)}
	at3 := plainSketch([]put{{-1000000, 4}})
	want := []impl.Cell{
		{Window: 1, Series: "level{}", Agg: impl.Agg{Kind: impl.Gauge, Samples: 2, Last: -4000000, LastAt: 19}},
		{Window: 2, Series: "hits{at,de}", Agg: impl.Agg{Kind: impl.Counter, Samples: 2, Sum: impl.WideOf(6000000)}},
		{Window: 2, Series: "hits{}", Agg: impl.Agg{Kind: impl.Counter, Samples: 1, Sum: impl.WideOf(1000000)}},
		{Window: 2, Series: "level{}", Agg: impl.Agg{Kind: impl.Gauge, Samples: 1, Last: 3000000, LastAt: 27}},
		{Window: 2, Series: "took{}", Agg: impl.Agg{Kind: impl.Histogram, Samples: 2, Sketch: at2}},
		{Window: 3, Series: "took{}", Agg: impl.Agg{Kind: impl.Histogram, Samples: 1, Sketch: at3}},
		{Window: 3, Series: "users{}", Agg: impl.Agg{Kind: impl.Set, Samples: 3, Hll: impl.Hll{Exact: hashes}}},
	}
	if got := impl.PipeCells(p); !sameCells(got, want) {
		t.Errorf("the cells: %+v, want %+v", got, want)
	}
	wantPipe(t, "twelve lines", impl.PipeOut{Pipe: p}, laid(impl.Pipe{Width: 10, Grace: 5, Now: 27}, evenThree, want), nil)
}

// TestTimesOfLines has a Time just at each bound, and one beyond it.
func TestTimesOfLines(t *testing.T) {
	for _, c := range []struct {
		width, now, closed int64
		time               int64
		code               int64
	}{
		{10, 0, 0, 0, impl.OK},
		{10, 0, 0, 10, impl.OK},
		{10, 0, 0, 11, impl.ErrRange},
		{10, 27, 0, 37, impl.OK},
		{10, 27, 0, 38, impl.ErrRange},
		{10, 27, 2, 20, impl.OK},
		{10, 27, 2, 19, impl.ErrLate},
		{10, 27, 2, 0, impl.ErrLate},
		{1, 0, 0, 1, impl.OK},
		{1, 0, 0, 2, impl.ErrRange},
		{1, 5, 3, 3, impl.OK},
		{1, 5, 3, 2, impl.ErrLate},
		{1000, 0, 0, 1000, impl.OK},
		{1000, 0, 0, 1001, impl.ErrRange},
		{1000, 7000, 5, 5000, impl.OK},
		{1000, 7000, 5, 4999, impl.ErrLate},
		{1, greatestTime, greatestWindow, greatestTime, impl.OK},
		{1, greatestTime, greatestWindow, greatestTime - 1, impl.ErrLate},
		{2, greatestTime, greatestWindow, greatestTime, impl.ErrLate},
		{1, greatestTime - 1, greatestWindow, greatestTime, impl.OK},
		{1, greatestTime - 2, greatestWindow, greatestTime, impl.ErrRange},
		{1, greatestTime - 2, 0, greatestTime - 1, impl.OK},
		{1000, greatestTime, 0, greatestTime, impl.OK},
		{1000, greatestTime - 1000, 0, greatestTime, impl.OK},
		{1000, greatestTime - 1001, 0, greatestTime, impl.ErrRange},
		{1000, greatestTime, 0, 0, impl.OK},
		{1, greatestTime, 0, 0, impl.OK},
		{10, 0, 100, 999, impl.ErrLate},
		{10, 0, 100, 1000, impl.ErrRange},
		{10, 989, 100, 1000, impl.ErrRange},
		{10, 990, 100, 1000, impl.OK},
	} {
		p := laid(impl.Pipe{Width: c.width, Grace: 7, Now: c.now, Closed: c.closed}, evenTwo, nil)
		for i, end := range lineEnds {
			text := fmt.Sprintf("x:%s|T%d", end, c.time)
			got := impl.PipeLine(p, text)
			if c.code != impl.OK {
				wantFault(t, fmt.Sprintf("%+v: %s", c, text), got, c.code)
				continue
			}
			cells := impl.PipeCells(got.Pipe)
			if len(cells) != 1 || cells[0].Window != c.time/c.width || cells[0].Agg.Kind != allKinds[i] {
				t.Errorf("%+v: %s: %+v", c, text, got)
			}
		}
	}
}

func TestLinesWithoutATime(t *testing.T) {
	for _, width := range []int64{1, 7, 10, 1000} {
		for _, now := range []int64{0, 1, 9, 10, 999, 1000, 1001, greatestTime - 1, greatestTime} {
			for _, closed := range []int64{0, now / width, now/width + 1} {
				if closed > greatestWindow {
					continue
				}
				p := laid(impl.Pipe{Width: width, Now: now, Closed: closed}, evenThree, nil)
				got := impl.PipeLine(p, "level:5|g|#x")
				if closed > now/width {
					wantFault(t, fmt.Sprintf("width %d, now %d, closed %d", width, now, closed), got, impl.ErrLate)
					continue
				}
				cells := []impl.Cell{{Window: now / width, Series: "level{x}", Agg: impl.Agg{Kind: impl.Gauge, Samples: 1, Last: 5000000, LastAt: now}}}
				wantPipe(t, fmt.Sprintf("width %d, now %d, closed %d", width, now, closed), got, laid(p, evenThree, cells), nil)
			}
		}
	}
}

func TestRoomInAWindow(t *testing.T) {
	for _, members := range [][]string{{"a"}, {"a", "b", "c"}, spreadNames(impl.MaxMembers)} {
		base := impl.Pipe{Width: 10, Grace: 5, Now: 70}
		for _, many := range []int{0, impl.MaxSeries - 1, impl.MaxSeries} {
			p := laid(base, members, append(cellsIn(7, many), oneOf(8, "z{}", impl.Set)))
			got := impl.PipeLine(p, "new:1|c")
			if many == impl.MaxSeries {
				wantFault(t, "a Series more in the window", got, impl.ErrFull)
				wantFault(t, "a Series more, of a tag", impl.PipeLine(p, "n00:1|c|#x"), impl.ErrFull)
				wantFault(t, "a Series that another window has", impl.PipeLine(p, "z:ann|s"), impl.ErrFull)
			} else if got.Code != impl.OK || !impl.PipeRight(got.Pipe) || len(impl.PipeCells(got.Pipe)) != many+2 {
				t.Errorf("a Series more where there are %d: %+v", many, got)
			}
			// Other windows have room of their own.
			for _, text := range []string{"new:1|c|T80", "new:1|c|T69", "new:1|c|T0", "n00:1|c|T80"} {
				if got := impl.PipeLine(p, text); got.Code != impl.OK || !impl.PipeRight(got.Pipe) {
					t.Errorf("%d in a window, and %q: %+v", many, text, got)
				}
			}
			// What has a cell goes there, however many there are.
			for i, c := range cellsIn(7, many) {
				got := impl.PipeLine(p, strings.TrimSuffix(c.Series, "{}")+":"+lineEnds[i%4])
				if got.Code != impl.OK || !impl.PipeRight(got.Pipe) || len(impl.PipeCells(got.Pipe)) != many+1 {
					t.Errorf("%s of %d in its window: %+v", c.Series, many, got)
				}
			}
		}
	}
}

func TestRoomInAll(t *testing.T) {
	for _, members := range [][]string{{"a"}, {"a", "b", "c"}, spreadNames(impl.MaxMembers)} {
		for _, each := range []int{1, 2, 7, impl.MaxSeries} {
			base := impl.Pipe{Width: 10, Grace: 5, Now: 600}
			p := laid(base, members, numbered(1, impl.MaxCells, each))
			for _, text := range []string{"new:1|c", "new:1|c|T0", "new:1|c|T10", "new:1|c|T610", "n00:1|c|T0", "n00:1|c|#x|T10"} {
				wantFault(t, fmt.Sprintf("MaxCells, %d a window, and %q", each, text), impl.PipeLine(p, text), impl.ErrFull)
			}
			got := impl.PipeLine(p, "n00:1|c|T19")
			if got.Code != impl.OK || len(impl.PipeCells(got.Pipe)) != impl.MaxCells || !impl.PipeRight(got.Pipe) {
				t.Errorf("MaxCells, %d a window, and one that has a cell: %+v", each, got)
			}
			less := laid(base, members, numbered(1, impl.MaxCells-1, each))
			got = impl.PipeLine(less, "new:1|c|T0")
			if got.Code != impl.OK || len(impl.PipeCells(got.Pipe)) != impl.MaxCells || !impl.PipeRight(got.Pipe) {
				t.Errorf("MaxCells less 1, %d a window, and one more: %+v", each, got)
			}
			wantFault(t, "and one more then", impl.PipeLine(got.Pipe, "newer:1|c|T0"), impl.ErrFull)
		}
	}
}

// TestFirstFaultOfPipeLine has two faults at once, and more.
func TestFirstFaultOfPipeLine(t *testing.T) {
	members := evenTwo
	open := laid(impl.Pipe{Width: 10, Grace: 5, Now: 70, Closed: 6}, members, append(cellsIn(7, impl.MaxSeries), oneOf(9, "far{}", impl.Counter)))
	full := laid(impl.Pipe{Width: 10, Grace: 5, Now: 70, Closed: 6}, members, numbered(7, impl.MaxCells, impl.MaxSeries))
	ahead := laid(impl.Pipe{Width: 10, Grace: 5, Now: 70, Closed: 60}, members, nil)
	wrong := clonePipe(full)
	wrong.Width = 0
	for _, c := range []struct {
		what string
		pipe impl.Pipe
		text string
		code int64
	}{
		{"too long", full, "x:1|c|#" + tooLong, impl.ErrSize},
		{"too long, and a wrong pipe", wrong, tooLong, impl.ErrSize},
		{"too long, and the zero Pipe", impl.Pipe{}, tooLong, impl.ErrSize},
		{"a line of MaxBytes that is none", full, tooLong[1:], impl.ErrSyntax},
		{"a line of MaxBytes that is none, and a wrong pipe", wrong, tooLong[1:], impl.ErrForm},
		{"a wrong pipe, and no line", wrong, "x", impl.ErrForm},
		{"a wrong pipe, and a late line", wrong, "x:1|c|T3", impl.ErrForm},
		{"a wrong pipe, and an early line", wrong, "x:1|c|T300", impl.ErrForm},
		{"no line", open, "", impl.ErrSyntax},
		{"no line, and late", open, "x:1,5|c|T3", impl.ErrSyntax},
		{"no line, and early", open, "x:|c|T300", impl.ErrSyntax},
		{"no line, and a time that is none", open, "x:1|c|T1000000001", impl.ErrSyntax},
		{"no kind", open, "x:1|k", impl.ErrKind},
		{"no kind, and late", open, "x:1|k|T3", impl.ErrKind},
		{"no kind, and early", open, "x:1|k|T300", impl.ErrKind},
		{"no kind, and full", full, "x:1|k", impl.ErrKind},
		{"no rate", open, "x:1|c|@0", impl.ErrRate},
		{"no rate, and late", open, "x:1|c|@1.5|T3", impl.ErrRate},
		{"no rate, and early", open, "x:1|g|@1|T300", impl.ErrRate},
		{"no rate, and full", full, "x:1|c|@2", impl.ErrRate},
		{"late", open, "x:1|c|T59", impl.ErrLate},
		{"late, and full", full, "x:1|c|T59", impl.ErrLate},
		{"late, and early", ahead, "x:1|c|T599", impl.ErrLate},
		{"late, without a time", ahead, "x:1|c", impl.ErrLate},
		{"early", open, "x:1|c|T81", impl.ErrRange},
		{"early, and full in the window", open, "x:1|c|T91", impl.ErrRange},
		{"early, and full in all", full, "x:1|c|T600", impl.ErrRange},
		{"early, and another Kind", open, "far:1|g|T90", impl.ErrRange},
		{"early, and its Kind", open, "far:1|c|T90", impl.ErrRange},
		{"full in the window", open, "x:1|c", impl.ErrFull},
		{"full in all", full, "x:1|c", impl.ErrFull},
		{"full in all, another Kind elsewhere", full, "n00:1|g|T60", impl.ErrFull},
		{"another Kind", open, "n00:1|g", impl.ErrKind},
		{"another Kind, and full in all", full, "n01:one|s", impl.ErrKind},
	} {
		kept := clonePipe(c.pipe)
		wantFault(t, c.what, impl.PipeLine(c.pipe, c.text), c.code)
		if !samePipe(c.pipe, kept) {
			t.Errorf("%s: the pipe is changed", c.what)
		}
	}
}

func TestLinesOfUnlikeKinds(t *testing.T) {
	for i, end := range lineEnds {
		first := "x:" + end
		p := impl.PipeLine(impl.PipeNew(evenTwo, 10, 5), first).Pipe
		for j, other := range lineEnds {
			second := "x:" + other
			got := impl.PipeLine(p, second)
			if i != j {
				wantFault(t, first+", then "+second, got, impl.ErrKind)
			} else if got.Code != impl.OK || impl.PipeCells(got.Pipe)[0].Agg.Samples != 2 {
				t.Errorf("%s twice: %+v", first, got)
			}
			for _, elsewhere := range []string{second + "|T10", strings.Replace(second, "x", "y", 1), second + "|#x"} {
				if got := impl.PipeLine(p, elsewhere); got.Code != impl.OK || len(impl.PipeCells(got.Pipe)) != 2 {
					t.Errorf("%s, then %s: %+v", first, elsewhere, got)
				}
			}
		}
	}
}

func TestEveryWrongLine(t *testing.T) {
	p := impl.PipeLine(impl.PipeNew(evenTwo, 10, 5), "hits:1|c").Pipe
	for _, text := range []string{
		"", "x", "x:", "x:1", "x:1|", "x:1|c|", "X:1|c", "x:1|C", "x:1|cc", "x:1|c|T", "x:1|c|T01", "x:1|c|T-1", "x:1|c|#", "x:1|c|#a,,b", "x:1|c|#A",
		"x:1|c|T5|#a", "x:1|c|#a|@0.5", "x:1.0000001|c", "x:one|c", "x:A|s", "x:|s", "x:1|g|@0.5", "x:one|s|@1", "x:1|h|@0", "x:1|h|@-1", "x:1|h|@1.000001",
		"x:1|c|#a,b,c,d,e,f,g,h,i", "x:1|c\n", " x:1|c", "x:1|c|T1000000001",
	} {
		want := impl.LineRead(text).Code
		if want == impl.OK || want != plainLine(text).Code {
			t.Fatalf("LineRead(%q): code %d", text, want)
		}
		wantFault(t, fmt.Sprintf("%q", text), impl.PipeLine(p, text), want)
	}
}

func TestPipeJoin(t *testing.T) {
	for i, p := range rightPipes() {
		members := membersOf(p)
		for _, more := range []string{"a", "h5", "mm", "zz", lesserTwin, greaterTwin, strings.Repeat("n", 40)} {
			what := fmt.Sprintf("the pipe %d, as %q comes", i, more)
			got := impl.PipeJoin(p, more)
			if slices.Contains(members, more) {
				wantFault(t, what, got, impl.ErrThere)
				continue
			}
			if len(members) == impl.MaxMembers {
				wantFault(t, what, got, impl.ErrFull)
				continue
			}
			all := append(slices.Clone(members), more)
			slices.Sort(all)
			wantPipe(t, what, got, laid(p, all, plainPipeCells(p)), nil)
		}
	}
}

// plainPipeCells goes through all Shards, apart from the program's way.
func plainPipeCells(p impl.Pipe) []impl.Cell {
	var l []impl.Cell
	for _, s := range p.Shards {
		l = append(l, s.Cells...)
	}
	sortCells(l)
	return l
}

func TestPipeLeave(t *testing.T) {
	for i, p := range rightPipes() {
		members := membersOf(p)
		for at, name := range members {
			what := fmt.Sprintf("the pipe %d, as %q leaves", i, name)
			got := impl.PipeLeave(p, name)
			if len(members) == 1 {
				wantFault(t, what, got, impl.ErrFull)
				continue
			}
			wantPipe(t, what, got, laid(p, slices.Concat(members[:at], members[at+1:]), plainPipeCells(p)), nil)
		}
		for _, name := range []string{"none", "a.none", members[0] + "x", strings.Repeat("q", 40)} {
			if !slices.Contains(members, name) && impl.NameRight(name) {
				wantFault(t, fmt.Sprintf("the pipe %d, as %q leaves", i, name), impl.PipeLeave(p, name), impl.ErrNone)
			}
		}
	}
}

func TestFirstFaultOfPipeJoinAndPipeLeave(t *testing.T) {
	base := impl.Pipe{Width: 10, Grace: 5, Now: 7}
	one := laid(base, []string{"a"}, numbered(0, 9, 5))
	two := laid(base, []string{"a", "b"}, numbered(0, 9, 5))
	most := laid(base, rightMembersOf(impl.MaxMembers), numbered(0, 9, 5))
	less := laid(base, rightMembersOf(impl.MaxMembers-1), numbered(0, 9, 5))
	wrong := clonePipe(two)
	wrong.Grace = -1
	for _, c := range []struct {
		what        string
		pipe        impl.Pipe
		member      string
		join, leave int64
	}{
		{"too long a member", two, tooLong, impl.ErrSize, impl.ErrSize},
		{"too long a member, and a wrong pipe", wrong, tooLong, impl.ErrSize, impl.ErrSize},
		{"too long a member, and the zero Pipe", impl.Pipe{}, tooLong, impl.ErrSize, impl.ErrSize},
		{"too long a member of a full pipe", most, tooLong, impl.ErrSize, impl.ErrSize},
		{"a member of MaxBytes", two, tooLong[1:], impl.ErrForm, impl.ErrForm},
		{"a member of MaxBytes of a full pipe", most, tooLong[1:], impl.ErrForm, impl.ErrForm},
		{"a member of 41 bytes", two, tooLong[:41], impl.ErrForm, impl.ErrForm},
		{"a wrong pipe, and no name", wrong, "A", impl.ErrForm, impl.ErrForm},
		{"a wrong pipe, and one that is there", wrong, "a", impl.ErrForm, impl.ErrForm},
		{"a wrong pipe, and one that is not", wrong, "c", impl.ErrForm, impl.ErrForm},
		{"no name", one, "", impl.ErrForm, impl.ErrForm},
		{"no name, of a full pipe", most, "A", impl.ErrForm, impl.ErrForm},
		{"one that is there, of a full pipe", most, "a", impl.ErrThere, impl.OK},
		{"the last one, of a full pipe", most, "l", impl.ErrThere, impl.OK},
		{"one that is not there, of a full pipe", most, "z", impl.ErrFull, impl.ErrNone},
		{"the last that may come", less, "z", impl.OK, impl.ErrNone},
		{"the only one", one, "a", impl.ErrThere, impl.ErrFull},
		{"another than the only one", one, "b", impl.OK, impl.ErrNone},
		{"one of two", two, "a", impl.ErrThere, impl.OK},
		{"a name that begins with one", two, "ab", impl.OK, impl.ErrNone},
	} {
		kept := clonePipe(c.pipe)
		for what, out := range map[string]impl.PipeOut{"comes": impl.PipeJoin(c.pipe, c.member), "leaves": impl.PipeLeave(c.pipe, c.member)} {
			want := map[string]int64{"comes": c.join, "leaves": c.leave}[what]
			if want != impl.OK {
				wantFault(t, c.what+" "+what, out, want)
			} else if out.Code != impl.OK || !impl.PipeRight(out.Pipe) || len(out.Cells) != 0 {
				t.Errorf("%s %s: %+v", c.what, what, out)
			}
		}
		if !samePipe(c.pipe, kept) {
			t.Errorf("%s: the pipe is changed", c.what)
		}
	}
	for _, name := range noNames {
		if len(name) <= impl.MaxBytes {
			wantFault(t, fmt.Sprintf("%.50q comes", name), impl.PipeJoin(two, name), impl.ErrForm)
			wantFault(t, fmt.Sprintf("%.50q leaves", name), impl.PipeLeave(two, name), impl.ErrForm)
		}
	}
}

// rightMembersOf are letters from a on.
func rightMembersOf(many int) []string {
	var l []string
	for i := range many {
		l = append(l, string(rune('a'+i)))
	}
	return l
}

func TestPipeClose(t *testing.T) {
	for i, p := range rightPipes() {
		for _, closed := range []int64{p.Closed, p.Closed + 1, 12345} {
			p.Closed = closed
			if !impl.PipeRight(p) {
				continue
			}
			got := impl.PipeClose(p)
			if p.Now < (closed+1)*p.Width+p.Grace {
				wantFault(t, fmt.Sprintf("the pipe %d, closed %d", i, closed), got, impl.ErrLate)
				continue
			}
			var own, others []impl.Cell
			for _, c := range plainPipeCells(p) {
				if c.Window == closed {
					own = append(own, c)
				} else {
					others = append(others, c)
				}
			}
			want := laid(p, membersOf(p), others)
			want.Closed++
			wantPipe(t, fmt.Sprintf("the pipe %d, closed %d", i, closed), got, want, own)
		}
	}
}

// TestTimeOfClosing has Now just at the bound, and one below.
func TestTimeOfClosing(t *testing.T) {
	for _, width := range []int64{1, 2, 10, 999, 1000} {
		for _, grace := range []int64{0, 1, 5, 1000} {
			for _, closed := range []int64{0, 1, 2, 99, 998999, 999998, 999999, greatestWindow / 2, greatestWindow - 1, greatestWindow} {
				bound := (closed+1)*width + grace
				for _, now := range []int64{0, bound - 1, bound, bound + 1, greatestTime} {
					if now < 0 || now > greatestTime {
						continue
					}
					p := laid(impl.Pipe{Width: width, Grace: grace, Now: now, Closed: closed}, evenTwo, []impl.Cell{oneOf(closed, "x{}", impl.Set), oneOf(greatestWindow, "y{}", impl.Gauge)})
					got := impl.PipeClose(p)
					if now < bound {
						wantFault(t, fmt.Sprintf("%+v", p), got, impl.ErrLate)
					} else if got.Code != impl.OK || got.Pipe.Closed != closed+1 || len(got.Cells) != 1 || got.Pipe.Now != now || !impl.PipeRight(got.Pipe) {
						t.Errorf("%+v: %+v", p, got)
					}
				}
			}
		}
	}
	last := laid(impl.Pipe{Width: 1, Now: greatestTime, Closed: greatestWindow - 1}, []string{"a"}, cellsIn(greatestWindow-1, 5))
	got := impl.PipeClose(last)
	wantPipe(t, "the last but one", got, impl.Pipe{Shards: []impl.Shard{{Name: "a"}}, Width: 1, Now: greatestTime, Closed: greatestWindow}, cellsIn(greatestWindow-1, 5))
	wantFault(t, "the last", impl.PipeClose(got.Pipe), impl.ErrLate)
}

func TestWrongPipesThatMayNotClose(t *testing.T) {
	for what, change := range clockFaults() {
		p := impl.PipeNew([]string{"a"}, 10, 5)
		change(&p)
		wantFault(t, what, impl.PipeClose(p), impl.ErrForm)
	}
}

func TestPipeTick(t *testing.T) {
	for i, p := range rightPipes() {
		for _, n := range []int64{0, 1, 15, greatestTime - p.Now, greatestTime - p.Now + 1, greatestTime, greatestTime + 1, -1, -p.Now - 1, math.MinInt64, math.MaxInt64, math.MaxInt64 - p.Now, math.MaxInt64 - p.Now + 1} {
			want := clonePipe(p)
			if n >= 0 && n <= greatestTime-p.Now {
				want.Now += n
			}
			if got := impl.PipeTick(p, n); !samePipe(got, want) || !impl.PipeRight(got) {
				t.Fatalf("the pipe %d by %d: %+v, want %+v", i, n, got, want)
			}
		}
	}
}

func TestPipeCells(t *testing.T) {
	for i, p := range rightPipes() {
		if got := impl.PipeCells(p); !sameCells(got, plainPipeCells(p)) || !impl.CellsRight(got) {
			t.Fatalf("the pipe %d: %+v, want %+v", i, got, plainPipeCells(p))
		}
	}
}

// someLine is near the present time, now and then too far; its kind is that of its series, now and then not.
func someLine(s *steps, m plainPipe, series int) string {
	i := s.next() % uint64(series)
	kind := i % 4
	if s.next()%15 == 0 {
		kind = s.next() % 4
	}
	text := fmt.Sprintf("m%d:", i/2)
	if kind == 3 {
		text += fmt.Sprintf("u%d|s", s.next()%50)
	} else {
		value := int64(s.next()%2000000000) - 1000000000
		text += impl.ValueText(value>>(s.next()%25)) + "|" + string("cgh"[kind])
	}
	if kind%2 == 0 && s.next()%3 == 0 {
		text += "|@" + []string{"0.5", "0.1", "1", "0.000001", "0.3"}[s.next()%5]
	}
	if i%2 == 1 {
		text += []string{"|#x,y", "|#y,x", "|#y,y,x"}[s.next()%3]
	}
	if s.next()%3 > 0 {
		when := m.now + m.width + 1 - int64(s.next()%uint64(3*m.width+2))
		text += fmt.Sprintf("|T%d", min(max(when, 0), greatestTime))
	}
	return text
}

// walk is a pipe that lines come to, members come to and leave, and time goes on with, and what it should be.
type walk struct {
	t     *testing.T
	s     steps
	pipe  impl.Pipe
	plain plainPipe
	taken []placed
	told  []impl.Cell
	codes map[string]int
}

func newWalk(t *testing.T, seed uint64) *walk {
	w := &walk{t: t, s: steps(seed * 77), codes: map[string]int{}}
	members := rightMembers()
	w.plain = plainPipe{
		members: members[seed%uint64(len(members))],
		width:   []int64{1, 3, 10, 1000}[seed%4],
		grace:   []int64{0, 2, 5, 1000, 1}[seed%5],
	}
	w.pipe = impl.PipeNew(w.plain.members, w.plain.width, w.plain.grace)
	return w
}

// step holds the answer against what the plain pipe has become.
func (w *walk) step(what string, got impl.PipeOut, cells []impl.Cell, code int64) {
	w.t.Helper()
	w.codes[fmt.Sprintf("%s %d", what, code)]++
	if code != impl.OK {
		if !samePipeOut(got, impl.PipeOut{Code: code}) {
			w.t.Fatalf("%s: %+v, want the code %d and nothing else", what, got, code)
		}
		return
	}
	wantPipe(w.t, what, got, w.plain.pipe(), cells)
	w.pipe = got.Pipe
}

func (w *walk) line(text string) int64 {
	w.t.Helper()
	p := w.plain.stamped(text)
	code := w.plain.line(text)
	w.step("line", impl.PipeLine(w.pipe, text), nil, code)
	if code == impl.OK {
		w.taken = append(w.taken, p)
	}
	return code
}

func (w *walk) close() int64 {
	w.t.Helper()
	cells, code := w.plain.close()
	got := impl.PipeClose(w.pipe)
	w.step("close", got, cells, code)
	w.told = append(w.told, got.Cells...)
	return code
}

func (w *walk) tick(n int64) {
	w.t.Helper()
	w.plain.tick(n)
	w.step("tick", impl.PipeOut{Pipe: impl.PipeTick(w.pipe, n)}, nil, impl.OK)
}

func (w *walk) comeOrLeave() {
	w.t.Helper()
	name := append(slices.Clone(w.plain.members), "a", "b", "one", "three", "two", "A", "left", "zz")[w.s.next()%uint64(len(w.plain.members)+8)]
	if w.s.next()%2 == 0 {
		code := w.plain.join(name)
		w.step("join", impl.PipeJoin(w.pipe, name), nil, code)
	} else {
		code := w.plain.leave(name)
		w.step("leave", impl.PipeLeave(w.pipe, name), nil, code)
	}
}

// check holds all that was told, and is there still, against one alone.
func (w *walk) check() {
	w.t.Helper()
	all := slices.Concat(w.told, impl.PipeCells(w.pipe))
	if want := plainCells(w.taken); !sameCells(all, want) {
		w.t.Fatalf("what is told and there: %+v, want %+v", all, want)
	}
	alone := impl.CellsOf(stampedOf(w.taken))
	if len(w.taken) <= impl.MaxList && len(all) <= impl.MaxCells {
		wantCells(w.t, "one alone", alone, all)
	}
}

func (w *walk) goOn(many int, series int) {
	w.t.Helper()
	for range many {
		switch n := w.s.next() % 20; {
		case n < 12:
			w.line(someLine(&w.s, w.plain, series))
		case n < 14:
			w.tick(int64(w.s.next()%uint64(2*w.plain.width+2)) - 1)
		case n < 17:
			w.comeOrLeave()
		default:
			w.close()
		}
	}
}

func TestPromise20WhateverComesAndGoes(t *testing.T) {
	codes := map[string]int{}
	for seed := range uint64(44) {
		w := newWalk(t, seed)
		if seed%11 == 10 {
			w.tick(greatestTime - 50)
			w.plain.closed = w.plain.now / w.plain.width
			w.pipe.Closed = w.plain.closed
		}
		for range 4 {
			w.goOn(30, []int{8, 30, 90}[seed%3])
			w.check()
		}
		for what, many := range w.codes {
			codes[what] += many
		}
	}
	for what, least := range map[string]int{
		"line 0": 500, "line 9": 20, "line 11": 50, "line 5": 30, "line 8": 5, "tick 0": 100, "close 0": 100, "close 11": 100,
		"join 0": 50, "join 1": 5, "join 7": 50, "join 8": 3, "leave 0": 50, "leave 1": 5, "leave 6": 20, "leave 8": 1,
	} {
		if codes[what] < least {
			t.Errorf("%q came %d times only: %v", what, codes[what], codes)
		}
	}
}

// TestPromise20ManyTellWhatOneTells has the same lines, ticks and closes come to a pipe whose members
// come and leave, and to one of a single member.
func TestPromise20ManyTellWhatOneTells(t *testing.T) {
	for seed := range uint64(12) {
		s := steps(seed + 900)
		m := plainPipe{width: 10, grace: 5}
		many, one := impl.PipeNew(spreadNames(1+int(seed)), 10, 5), impl.PipeNew([]string{"alone"}, 10, 5)
		for i := range 150 {
			if s.next()%4 == 0 {
				name := fmt.Sprintf("k%d", s.next()%20)
				if out := impl.PipeJoin(many, name); out.Code == impl.OK {
					many = out.Pipe
				}
				members := membersOf(many)
				if out := impl.PipeLeave(many, members[s.next()%uint64(len(members))]); out.Code == impl.OK && s.next()%2 == 0 {
					many = out.Pipe
				}
			}
			var a, b impl.PipeOut
			switch {
			case i%10 == 9:
				n := int64(s.next() % 12)
				m.tick(n)
				a, b = impl.PipeOut{Pipe: impl.PipeTick(many, n)}, impl.PipeOut{Pipe: impl.PipeTick(one, n)}
			case i%10 == 4:
				a, b = impl.PipeClose(many), impl.PipeClose(one)
			default:
				text := someLine(&s, m, 30)
				a, b = impl.PipeLine(many, text), impl.PipeLine(one, text)
			}
			if a.Code != b.Code || !sameCells(a.Cells, b.Cells) || !sameCells(impl.PipeCells(a.Pipe), impl.PipeCells(b.Pipe)) {
				t.Fatalf("seed %d, step %d: %+v, and of one alone %+v", seed, i, a, b)
			}
			if a.Code == impl.OK {
				many, one = a.Pipe, b.Pipe
			}
			if many.Now != one.Now || many.Closed != one.Closed {
				t.Fatalf("seed %d, step %d: Now %d, Closed %d, and of one alone %d, %d", seed, i, many.Now, many.Closed, one.Now, one.Closed)
			}
		}
	}
}

func TestPromise16AsOneAlone(t *testing.T) {
	taken := 0
	for i, p := range rightPipes() {
		alone := impl.Shard{Name: "alone", Cells: plainPipeCells(p)}
		m := plainPipe{width: p.Width, now: p.Now}
		s := steps(uint64(i))
		for range 6 {
			text := someLine(&s, m, 40)
			got := impl.PipeLine(p, text)
			if got.Code != impl.OK {
				wantFault(t, text, got, got.Code)
				continue
			}
			taken++
			put := m.stamped(text)
			want := impl.ShardPut(alone, put.window, put.sample)
			if want.Code != impl.OK || !sameCells(impl.PipeCells(got.Pipe), want.Shard.Cells) {
				t.Fatalf("the pipe %d and %q: %+v, want %+v", i, text, got, want)
			}
			wantPipe(t, text, got, laid(p, membersOf(p), want.Shard.Cells), nil)
		}
	}
	if taken < 100 {
		t.Errorf("%d lines were taken only", taken)
	}
}

func TestPromise16LinesOfRightSamples(t *testing.T) {
	taken := 0
	for _, x := range rightSamples() {
		text := plainLineText(x)
		if text == "" {
			continue
		}
		for _, width := range []int64{1, 10, 1000} {
			p := laid(impl.Pipe{Width: width, Now: max(0, x.Time-width)}, evenThree, nil)
			got := impl.PipeLine(p, text)
			put := plainPipe{width: width, now: p.Now}.stamped(text)
			wantPipe(t, text, got, laid(p, evenThree, plainCells([]placed{put})), nil)
			wantCells(t, text, impl.CellsOf(stampedOf([]placed{put})), impl.PipeCells(got.Pipe))
			taken++
		}
	}
	if taken < 100 {
		t.Errorf("%d lines were taken only", taken)
	}
}

func TestPromise17MembersChangeNoCell(t *testing.T) {
	for i, p := range rightPipes() {
		want := plainPipeCells(p)
		s := steps(uint64(i) + 40)
		q := p
		for range 12 {
			name := []string{"a", "left", "one", "two", lesserTwin, greaterTwin, "zz"}[s.next()%7]
			joined := impl.PipeJoin(q, name)
			if joined.Code == impl.OK {
				if back := impl.PipeLeave(joined.Pipe, name); !samePipe(back.Pipe, q) || back.Code != impl.OK {
					t.Fatalf("the pipe %d: %q comes and leaves: %+v, want %+v", i, name, back, q)
				}
				q = joined.Pipe
			} else if left := impl.PipeLeave(q, name); left.Code == impl.OK {
				if back := impl.PipeJoin(left.Pipe, name); !samePipe(back.Pipe, q) || back.Code != impl.OK {
					t.Fatalf("the pipe %d: %q leaves and comes: %+v, want %+v", i, name, back, q)
				}
				q = left.Pipe
			}
			if got := impl.PipeCells(q); !sameCells(got, want) || !impl.CellsSame(got, want) {
				t.Fatalf("the pipe %d: %+v, want %+v", i, got, want)
			}
			wantPipe(t, "members come and leave", impl.PipeOut{Pipe: q}, laid(p, membersOf(q), want), nil)
		}
	}
}

// TestPromise17AllLeaveButOne has a full pipe go to MaxMembers members, and to one of them.
func TestPromise17AllLeaveButOne(t *testing.T) {
	want := numbered(0, impl.MaxCells, impl.MaxSeries)
	for at, stays := range rightMembersOf(impl.MaxMembers) {
		p := laid(impl.Pipe{Width: 10, Grace: 5, Now: 20}, []string{"m0"}, want)
		for _, name := range shuffled(rightMembersOf(impl.MaxMembers-1), uint64(at)) {
			p = impl.PipeJoin(p, name).Pipe
		}
		p = impl.PipeLeave(p, "m0").Pipe
		p = impl.PipeJoin(p, "l").Pipe
		if len(p.Shards) != impl.MaxMembers || !sameCells(impl.PipeCells(p), want) {
			t.Fatalf("all come: %+v", p)
		}
		for _, name := range shuffled(rightMembersOf(impl.MaxMembers), uint64(at)+50) {
			if name != stays {
				p = impl.PipeLeave(p, name).Pipe
			}
		}
		wantPipe(t, stays+" stays", impl.PipeOut{Pipe: p}, laid(p, []string{stays}, want), nil)
	}
}

func TestPromise18AClosedWindow(t *testing.T) {
	for seed := range uint64(15) {
		w := newWalk(t, seed)
		w.goOn(60, 20)
		for range 5 {
			was := slices.DeleteFunc(impl.PipeCells(w.pipe), func(c impl.Cell) bool { return c.Window != w.plain.closed })
			w.tick(max(0, (w.plain.closed+1)*w.plain.width+w.plain.grace-w.plain.now))
			closing := w.plain.closed
			got := impl.PipeClose(w.pipe)
			if got.Code != impl.OK || !sameCells(got.Cells, was) || got.Pipe.Closed != closing+1 {
				t.Fatalf("the window %d: %+v, want the cells %+v", closing, got, was)
			}
			w.close()
			for _, text := range []string{
				fmt.Sprintf("m0:1|c|T%d", closing*w.plain.width), fmt.Sprintf("new:1|c|T%d", (closing+1)*w.plain.width-1), "new:1|c|T0",
			} {
				wantFault(t, text, impl.PipeLine(w.pipe, text), impl.ErrLate)
			}
			if slices.ContainsFunc(impl.PipeCells(w.pipe), func(c impl.Cell) bool { return c.Window <= closing }) {
				t.Fatalf("the window %d has cells still", closing)
			}
			w.goOn(10, 20)
			w.check()
		}
	}
}

// TestPromise18WindowsOneAfterAnother closes windows with cells and without, in one go.
func TestPromise18WindowsOneAfterAnother(t *testing.T) {
	var cells []impl.Cell
	for _, window := range []int64{0, 1, 4, 5, 9} {
		cells = append(cells, cellsIn(window, 12)...)
	}
	p := laid(impl.Pipe{Width: 10, Grace: 5, Now: 105}, evenThree, cells)
	for window := range int64(10) {
		own := slices.DeleteFunc(slices.Clone(cells), func(c impl.Cell) bool { return c.Window != window })
		rest := slices.DeleteFunc(slices.Clone(cells), func(c impl.Cell) bool { return c.Window <= window })
		got := impl.PipeClose(p)
		want := laid(p, membersOf(p), rest)
		want.Closed = window + 1
		wantPipe(t, fmt.Sprintf("the window %d", window), got, want, own)
		p = got.Pipe
	}
	wantFault(t, "the window 10", impl.PipeClose(p), impl.ErrLate)
}

func TestPromise19TwoStepsAsOne(t *testing.T) {
	for i, p := range rightPipes() {
		left := greatestTime - p.Now
		s := steps(uint64(i) + 7)
		for _, whole := range []int64{0, 1, 2, 15, left / 2, left - 1, left} {
			if whole < 0 || whole > left {
				continue
			}
			first := int64(s.next() % uint64(whole+1))
			for _, part := range []int64{0, first, whole} {
				two, one := impl.PipeTick(impl.PipeTick(p, part), whole-part), impl.PipeTick(p, whole)
				if !samePipe(two, one) || one.Now != p.Now+whole {
					t.Fatalf("the pipe %d by %d and %d: %+v, want %+v", i, part, whole-part, two, one)
				}
			}
		}
		// A step past the bound is none; the one ahead of it stays.
		if got, want := impl.PipeTick(impl.PipeTick(p, left), 1), impl.PipeTick(p, left); !samePipe(got, want) || got.Now != greatestTime {
			t.Fatalf("the pipe %d past its bound: %+v", i, got)
		}
	}
}

// spoilPipe overwrites a pipe's lists up to their capacity, one Shard after the other, and tells whether
// two of them share memory.
func spoilPipe(p impl.Pipe) bool {
	shared := false
	kept := clonePipe(p)
	for i := range p.Shards {
		shared = shared || !sameShards(p.Shards[i:], kept.Shards[i:])
		shared = spoilCells(p.Shards[i].Cells) || shared
	}
	l := p.Shards[:cap(p.Shards)]
	for i := range l {
		l[i] = impl.Shard{Name: "spoilt"}
	}
	return shared
}

func spoilPipeOut(o impl.PipeOut) bool {
	kept := cloneCells(o.Cells)
	shared := spoilPipe(o.Pipe)
	shared = shared || !sameCells(o.Cells, kept)
	return spoilCells(o.Cells) || shared
}

// withRoom has other Shards behind those of p, and other cells behind those of each, in the same memory.
func withRoom(p impl.Pipe) (impl.Pipe, []impl.Shard, [][]impl.Cell) {
	shards := append(slices.Clone(p.Shards), impl.Shard{Name: "behind"}, impl.Shard{Name: "behind"})
	var cells [][]impl.Cell
	for i := range p.Shards {
		l := append(cloneCells(p.Shards[i].Cells), cellsFrom(0, 4)...)
		cells = append(cells, l)
		shards[i].Cells = l[:len(p.Shards[i].Cells)]
	}
	p.Shards = shards[:len(p.Shards)]
	return p, shards, cells
}

func TestPipesAreNewMemory(t *testing.T) {
	for i, given := range rightPipes() {
		p, shards, lists := withRoom(given)
		keptPipe, keptShards := clonePipe(p), clonePipe(impl.Pipe{Shards: shards}).Shards
		var keptLists [][]impl.Cell
		for _, l := range lists {
			keptLists = append(keptLists, cloneCells(l))
		}
		outs := []impl.PipeOut{
			{Pipe: impl.PipeTick(p, 0)}, {Pipe: impl.PipeTick(p, 1)}, {Pipe: impl.PipeTick(p, -1)}, {Cells: impl.PipeCells(p)}, {Cells: impl.PipeCells(p)},
			impl.PipeJoin(p, "two"), impl.PipeJoin(p, "zz"), impl.PipeLeave(p, p.Shards[0].Name), impl.PipeLeave(p, p.Shards[len(p.Shards)-1].Name),
			impl.PipeClose(p), impl.PipeLine(p, "new:1|c"), impl.PipeLine(p, "n00:1|c"), impl.PipeLine(p, "hits:u|s|#a:1"), impl.PipeLine(p, "x:1|k"),
		}
		for j, out := range outs {
			if spoilPipeOut(out) {
				t.Fatalf("the pipe %d, answer %d: two lists share memory", i, j)
			}
		}
		if !samePipe(p, keptPipe) || !sameShards(shards, keptShards) {
			t.Fatalf("the pipe %d is changed, or shared, or the room behind it is", i)
		}
		for j, l := range lists {
			if !sameCells(l, keptLists[j]) {
				t.Fatalf("the pipe %d: the room behind cells is written", i)
			}
		}
	}
}

func TestWrongPipesAreCopied(t *testing.T) {
	for what, p := range wrongPipes() {
		kept := clonePipe(p)
		got := impl.PipeTick(p, 3)
		if spoilPipe(got); !samePipe(p, kept) {
			t.Errorf("%.60s: PipeTick's answer shares memory with it", what)
		}
	}
}

func TestPipeNewIsNewMemory(t *testing.T) {
	members := []string{"a", "b", "c", "d"}
	kept := slices.Clone(members)
	p := impl.PipeNew(members[:2], 10, 5)
	want := clonePipe(p)
	members[0], members[1] = "x", "y"
	if !samePipe(p, want) {
		t.Errorf("a pipe is changed by what becomes of its members")
	}
	members = slices.Clone(kept)
	spoilPipe(impl.PipeNew(members[:2], 10, 5))
	if !slices.Equal(members, kept) {
		t.Errorf("members that were %q are %q", kept, members)
	}
}

// TestPipesKeepNothing asks often: no order in which Shards and cells stand inside may be seen.
func TestPipesKeepNothing(t *testing.T) {
	p := laid(impl.Pipe{Width: 10, Grace: 5, Now: 40}, rightMembersOf(impl.MaxMembers-1), numbered(0, impl.MaxCells-1, impl.MaxSeries))
	line, join, leave := impl.PipeLine(p, "n40:1|c"), impl.PipeJoin(p, "zz"), impl.PipeLeave(p, "b")
	closed, ticked, cells := impl.PipeClose(p), impl.PipeTick(p, 5), impl.PipeCells(p)
	for range 30 {
		wantFault(t, "a line in between", impl.PipeLine(p, "x:1|c|T51"), impl.ErrRange)
		if !samePipeOut(line, impl.PipeLine(p, "n40:1|c")) || !samePipeOut(join, impl.PipeJoin(p, "zz")) || !samePipeOut(leave, impl.PipeLeave(p, "b")) {
			t.Fatal("a call that comes again tells something else")
		}
		if !samePipeOut(closed, impl.PipeClose(p)) || !samePipe(ticked, impl.PipeTick(p, 5)) || !sameCells(cells, impl.PipeCells(p)) {
			t.Fatal("a call that comes again tells something else")
		}
	}
}
