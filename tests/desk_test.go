package tests

import (
	"fmt"
	"regexp"
	"slices"
	"strconv"
	"strings"
	"testing"

	"loop.example/g00309/impl"
)

var deskForm = regexp.MustCompile(`\A(?:(?:put|join|leave|where|many) [^ \n]+|(?:tick|rank [^ \n]+) (?:0|[1-9][0-9]{0,8})|close|top)\n\z`)

// plainDesk has the samples of all windows that are not closed at hand, apart from the program's way.
type plainDesk struct {
	plainPipe
	top impl.Top
}

func newPlainDesk() plainDesk {
	return plainDesk{plainPipe: plainPipe{members: []string{"a"}, width: 10, grace: 5}}
}

// samplesOf are those of all open windows.
func (d *plainDesk) samplesOf(series string, kind int64) []impl.Sample {
	var l []impl.Sample
	for _, p := range d.open {
		if p.sample.Series == series && p.sample.Kind == kind {
			l = append(l, p.sample)
		}
	}
	return l
}

func (d *plainDesk) put(line string) string {
	code := d.line(line)
	if code == impl.OK {
		d.top = plainTopPut(d.top, plainLine(line).Sample.Series, 1)
	}
	return fmt.Sprintf("put %d\n", code)
}

func (d *plainDesk) closeText() string {
	cells, code := d.close()
	text := fmt.Sprintf("close %d\n", code)
	for _, c := range cells {
		text += plainCellText(c) + "\n"
	}
	return text
}

func (d *plainDesk) rank(series string, rank uint64) string {
	l := d.samplesOf(series, impl.Histogram)
	if len(l) == 0 {
		return "rank none\n"
	}
	return "rank " + digitsOf(plainRank(plainAgg(impl.Histogram, l).Sketch, rank)) + "\n"
}

func (d *plainDesk) many(series string) string {
	h := plainAgg(impl.Set, d.samplesOf(series, impl.Set)).Hll
	if len(h.Regs) > 0 {
		return fmt.Sprintf("many %d\n", plainCount(h.Regs))
	}
	return fmt.Sprintf("many %d\n", len(h.Exact))
}

func (d *plainDesk) topText() string {
	text := "top"
	for _, item := range d.top.Items {
		text += fmt.Sprintf(" %s=%d", item.Key, item.Count)
	}
	return text + "\n"
}

// tell is of a right line.
func (d *plainDesk) tell(line string) string {
	words := strings.Split(strings.TrimSuffix(line, "\n"), " ")
	number := uint64(0)
	if len(words) > 1 {
		number, _ = strconv.ParseUint(words[len(words)-1], 10, 64)
	}
	switch words[0] {
	case "put":
		return d.put(words[1])
	case "join":
		return fmt.Sprintf("join %d\n", d.join(words[1]))
	case "leave":
		return fmt.Sprintf("leave %d\n", d.leave(words[1]))
	case "tick":
		d.tick(int64(number))
		return fmt.Sprintf("tick %d\n", d.now)
	case "close":
		return d.closeText()
	case "where":
		return "where " + plainOwner(d.members, words[1]) + "\n"
	case "rank":
		return d.rank(words[1], number)
	case "many":
		return d.many(words[1])
	}
	return d.topText()
}

// plainDeskRun knows lines by a pattern, and works what they tell out of all samples at once.
func plainDeskRun(text string) impl.DeskOut {
	if len(text) > impl.MaxBytes {
		return impl.DeskOut{Code: impl.ErrSize}
	}
	at := int64(0)
	for line := range strings.Lines(text) {
		if at == impl.MaxDesk || !deskForm.MatchString(line) {
			return impl.DeskOut{Line: at, Code: impl.ErrSyntax}
		}
		at++
	}
	d := newPlainDesk()
	var out impl.DeskOut
	for line := range strings.Lines(text) {
		out.Text += d.tell(line)
	}
	return out
}

func wantDeskOut(t *testing.T, what string, text string, want impl.DeskOut) {
	t.Helper()
	if got := impl.DeskRun(text); got != want {
		t.Errorf("%s: DeskRun of %.300q: %.300q at the line %d, code %d, want %.300q at %d, code %d", what, text, got.Text, got.Line, got.Code, want.Text, want.Line, want.Code)
	}
	want.Text = ""
	if got := impl.DeskFault(text); got != want {
		t.Errorf("%s: DeskFault of %.300q: %+v, want %+v", what, text, got, want)
	}
}

func wantTold(t *testing.T, what string, text string, told string) {
	t.Helper()
	if plain := plainDeskRun(text); plain != (impl.DeskOut{Text: told}) {
		t.Fatalf("%s: the test's own desk tells %+v of %.300q, want %.300q", what, plain, text, told)
	}
	wantDeskOut(t, what, text, impl.DeskOut{Text: told})
}

func wantLineFault(t *testing.T, what string, text string, line int64) {
	t.Helper()
	wantDeskOut(t, what, text, impl.DeskOut{Line: line, Code: impl.ErrSyntax})
}

// deskCase has a line and what is told of it in turn.
type deskCase struct {
	line string
	told string
}

// wantEach holds each line against what it tells behind those ahead of it.
func wantEach(t *testing.T, what string, l []deskCase) {
	t.Helper()
	text, told := "", ""
	for _, c := range l {
		text += c.line + "\n"
		told += c.told + "\n"
		wantTold(t, what+", up to "+c.line, text, told)
	}
}

// exactText tells a Set of these words, as one of few is told.
func exactText(words ...string) string {
	var hashes []uint64
	for _, word := range words {
		hashes = append(hashes, libraryHash(word))
	}
	slices.Sort(hashes)
	return "e" + plainListText(hashes, func(n uint64) string { return fmt.Sprint(n) })
}

func TestDeskLinesAlone(t *testing.T) {
	for line, told := range map[string]string{
		"put hits:1|c":           "put 0",
		"put hits:1|c|#x|T10":    "put 0",
		"put level:-4|g":         "put 0",
		"put took:7|h|@0.5":      "put 0",
		"put users:ann|s":        "put 0",
		"put hits":               "put 3",
		"put hits:1|k":           "put 9",
		"put hits:1|c|@2":        "put 10",
		"put hits:1|c|T11":       "put 5",
		"join b":                 "join 0",
		"join a":                 "join 7",
		"join B":                 "join 1",
		"leave a":                "leave 8",
		"leave b":                "leave 6",
		"leave B":                "leave 1",
		"tick 0":                 "tick 0",
		"tick 999999999":         "tick 999999999",
		"close":                  "close 11",
		"where hits{}":           "where a",
		"rank took{} 0":          "rank none",
		"many users{}":           "many 0",
		"top":                    "top",
		"rank took{} 999999999":  "rank none",
		"many top":               "many 0",
		"where where":            "where a",
		"join top":               "join 0",
		"leave leave":            "leave 6",
		"put put":                "put 3",
		"rank rank 1":            "rank none",
		"rank 1 1":               "rank none",
		"many \xff\xfe":          "many 0",
		"where \xe2\x82":         "where a",
		"put \x00":               "put 3",
		"join \t":                "join 1",
		"leave \r":               "leave 1",
		"where hits{}\u00a0\t\v": "where a",
	} {
		wantTold(t, "alone", line+"\n", told+"\n")
	}
}

func TestDeskLinesAfterOneAnother(t *testing.T) {
	wantEach(t, "all nine", []deskCase{
		{"put hits:1|c|#x", "put 0"},
		{"put took:7|h", "put 0"},
		{"put took:-2|h|@0.5|T10", "put 0"},
		{"put users:ann|s|T3", "put 0"},
		{"put users:bob|s|T10", "put 0"},
		{"put users:ann|s|T10", "put 0"},
		{"join right", "join 0"},
		{"join left", "join 0"},
		{"put hits:0.5|c|@0.25|#x", "put 0"},
		{"where hits{x}", "where " + plainOwner([]string{"a", "left", "right"}, "hits{x}")},
		{"rank took{} 0", "rank -1.998848"},
		{"rank took{} 1", "rank -1.998848"},
		{"rank took{} 2", "rank 6.979584"},
		{"rank took{} 3", "rank 0"},
		{"many users{}", "many 2"},
		{"put level:-4|g", "put 0"},
		{"leave a", "leave 0"},
		{"tick 14", "tick 14"},
		{"close", "close 11"},
		{"put level:3|g|T9", "put 0"},
		{"tick 1", "tick 15"},
		{"close", "close 0\nhits{x} c 2 3000000\nlevel{} g 2 3 9\ntook{} h 1 0 2133:1 - 7000000\nusers{} s 1 " + exactText("ann")},
		{"put level:3|g|T9", "put 11"},
		{"rank took{} 0", "rank -1.998848"},
		{"rank took{} 2", "rank 0"},
		{"many users{}", "many 2"},
		{"top", "top hits{x}=2 level{}=2 took{}=2 users{}=3"},
		{"close", "close 11"},
		{"tick 10", "tick 25"},
		{"close", "close 0\ntook{} h 1 0 - 1908:2 -4000000\nusers{} s 2 " + exactText("ann", "bob")},
		{"rank took{} 0", "rank none"},
		{"many users{}", "many 0"},
		{"tick 10", "tick 35"},
		{"close", "close 0"},
		{"close", "close 11"},
		{"top", "top hits{x}=2 level{}=2 took{}=2 users{}=3"},
	})
}

func TestDeskPut(t *testing.T) {
	for i, end := range lineEnds {
		line := "put x:" + end
		wantEach(t, "a line of the kind", []deskCase{
			{line, "put 0"},
			{line + "|T0", "put 0"},
			{line + "|T10", "put 0"},
			{line + "|#a,b", "put 0"},
			{line + "|T11", "put 5"},
			{line + "|T1000000001", "put 3"},
			{line + "|T01", "put 3"},
			{line + "|", "put 3"},
			{line + "x", "put 9"},
			{line + "|#A", "put 3"},
			{strings.Replace(line, "x:", "X:", 1), "put 3"},
			{"put x:" + lineEnds[(i+1)%4], "put 9"},
			{"put x:" + lineEnds[(i+1)%4] + "|#c", "put 0"},
			{"put x:|" + end[len(end)-1:], "put 3"},
			{"top", "top x{a,b}=1 x{c}=1 x{}=3"},
		})
	}
	for end, code := range map[string]int64{"1|c|@0.5": 0, "1|h|@0.5": 0, "1|c|@0": impl.ErrRate, "1|h|@1.1": impl.ErrRate, "1|g|@0.5": impl.ErrRate, "u|s|@1": impl.ErrRate} {
		wantTold(t, "a rate", "put x:"+end+"\n", fmt.Sprintf("put %d\n", code))
	}
}

// TestDeskRefusedPuts has lines that are refused change nothing, the Top neither.
func TestDeskRefusedPuts(t *testing.T) {
	ahead := "put x:1|c\nput y:1|h\nput z:u|s\n"
	behind := "top\nrank y{} 0\nmany z{}\ntick 15\nclose\n"
	for _, line := range []string{"x", "x:1|g", "x:1|k", "x:1|c|@7", "x:1|c|T11", "y:1|c", "y:2|h|@0", "z:v|s|@1", "z:V|s", "x:1|c|T999999999", "x:1|c|#"} {
		told := strings.Split(impl.DeskRun(ahead+"put "+line+"\n"+behind).Text, "\n")
		if told[3] == "put 0" || !slices.Equal(slices.Delete(told, 3, 4), strings.Split(impl.DeskRun(ahead+behind).Text, "\n")) {
			t.Errorf("%q is refused: %q", line, told)
		}
	}
}

func TestDeskRoomInAWindow(t *testing.T) {
	var l []deskCase
	for i := range impl.MaxSeries {
		l = append(l, deskCase{fmt.Sprintf("put n%d:%s", i, lineEnds[i%4]), "put 0"})
	}
	wantEach(t, "MaxSeries", append(l, []deskCase{
		{"put new:1|c", "put 8"},
		{"put n0:1|c", "put 0"},
		{"put new:1|c|T10", "put 0"},
		{"join b", "join 0"},
		{"put new:1|c|T9", "put 8"},
		{"put n0:1|g", "put 9"},
	}...))
}

func TestDeskMembers(t *testing.T) {
	wantEach(t, "members", []deskCase{
		{"leave a", "leave 8"},
		{"join a", "join 7"},
		{"join b", "join 0"},
		{"join b", "join 7"},
		{"leave a", "leave 0"},
		{"leave a", "leave 6"},
		{"where hits{}", "where b"},
		{"leave b", "leave 8"},
		{"join a", "join 0"},
		{"leave b", "leave 0"},
		{"join 9", "join 1"},
		{"leave 9", "leave 1"},
		{"join a{}", "join 1"},
		{"join " + strings.Repeat("n", 40), "join 0"},
		{"join " + strings.Repeat("n", 41), "join 1"},
		{"leave " + strings.Repeat("n", 41), "leave 1"},
		{"leave " + strings.Repeat("n", 40), "leave 0"},
		{"leave " + strings.Repeat("n", 40), "leave 6"},
		{"join A", "join 1"},
	})
	var l []deskCase
	for _, name := range rightMembersOf(impl.MaxMembers)[1:] {
		l = append(l, deskCase{"join " + name, "join 0"}, deskCase{"join " + name, "join 7"})
	}
	wantEach(t, "MaxMembers", append(l, []deskCase{
		{"join z", "join 8"},
		{"join a", "join 7"},
		{"join Z", "join 1"},
		{"leave z", "leave 6"},
		{"leave a", "leave 0"},
		{"join z", "join 0"},
		{"join a", "join 8"},
	}...))
}

func TestDeskTickAndClose(t *testing.T) {
	wantEach(t, "a window without cells", []deskCase{
		{"close", "close 11"},
		{"tick 0", "tick 0"},
		{"tick 10", "tick 10"},
		{"close", "close 11"},
		{"tick 4", "tick 14"},
		{"close", "close 11"},
		{"tick 1", "tick 15"},
		{"close", "close 0"},
		{"close", "close 11"},
		{"put x:1|c|T9", "put 11"},
		{"put x:1|c|T10", "put 0"},
		{"put x:1|c|T25", "put 0"},
		{"put x:1|c|T26", "put 5"},
		{"tick 30", "tick 45"},
		{"close", "close 0\nx{} c 1 1000000"},
		{"close", "close 0\nx{} c 1 1000000"},
		{"close", "close 0"},
		{"close", "close 11"},
		{"put x:1|c|T39", "put 11"},
		{"put x:1|c|T40", "put 0"},
	})
	wantEach(t, "a window of all kinds", []deskCase{
		{"put d:ann|s", "put 0"},
		{"put c:0|h|@0.1", "put 0"},
		{"put c:-0.000257|h", "put 0"},
		{"put c:0.000003|h|@0.5", "put 0"},
		{"put b:1.5|g|#z,y", "put 0"},
		{"put a:-2|c|@0.5", "put 0"},
		{"put b:7|g|T10", "put 0"},
		{"put b:-1|g|#y,z|T4", "put 0"},
		{"tick 20", "tick 20"},
		{"close", "close 0\na{} c 1 -4000000\nb{y,z} g 2 -1 4\nc{} h 3 10 3:2 256:1 -251\nd{} s 1 " + exactText("ann")},
		{"tick 5", "tick 25"},
		{"close", "close 0\nb{} g 1 7 10"},
	})
}

func TestDeskLargestTime(t *testing.T) {
	wantEach(t, "up to the bound", []deskCase{
		{"tick 999999989", "tick 999999989"},
		{"put x:1|h|T1000000000", "put 5"},
		{"tick 1", "tick 999999990"},
		{"put x:1|h|T1000000000", "put 0"},
		{"put x:1|h|T1000000001", "put 3"},
		{"tick 11", "tick 999999990"},
		{"tick 999999999", "tick 999999990"},
		{"tick 10", "tick 1000000000"},
		{"tick 1", "tick 1000000000"},
		{"tick 0", "tick 1000000000"},
		{"put x:1|h", "put 0"},
		{"put x:3|h|T0", "put 0"},
		{"put y:4|g", "put 0"},
		{"rank x{} 1", "rank 0.999424"},
		{"close", "close 0\nx{} h 1 0 1975:1 - 3000000"},
		{"close", "close 0"},
		{"rank x{} 1", "rank 0.999424"},
		{"rank x{} 2", "rank 0"},
	})
}

func TestDeskWhere(t *testing.T) {
	members := []string{"a", "left", "right"}
	text, told := "join left\njoin right\n", "join 0\njoin 0\n"
	owners := map[string]int{}
	words := []string{"a", "hits{}", "hits{x,y}", "\xff", "\xff\xff", "\ufffd", "\xe2\x82", "é", "\u2028", "\x00", "\t", "\r", "|", "where", "0", "-1", strings.Repeat("w", 9000)}
	for i := range 40 {
		words = append(words, fmt.Sprintf("n%d{}", i))
	}
	for _, word := range words {
		owner := plainOwner(members, word)
		owners[owner]++
		text += "where " + word + "\n"
		told += "where " + owner + "\n"
	}
	wantTold(t, "any word", text, told)
	if owners["left"] == 0 || owners["right"] == 0 {
		t.Errorf("the owners are %v only", owners)
	}
	// Bytes that are no text are not one another, nor what stands for them when they are read by runes.
	apart := false
	for i := range 200 {
		a, b := fmt.Sprintf("k%d\xff", i), fmt.Sprintf("k%d\ufffd", i)
		apart = apart || plainOwner(members, a) != plainOwner(members, b)
		wantTold(t, "bytes", "join left\njoin right\nwhere "+a+"\nwhere "+b+"\n", fmt.Sprintf("join 0\njoin 0\nwhere %s\nwhere %s\n", plainOwner(members, a), plainOwner(members, b)))
	}
	if !apart {
		t.Error("no two words are told apart by their bytes")
	}
}

func TestDeskRank(t *testing.T) {
	wantEach(t, "in one window and in several", []deskCase{
		{"rank x{} 0", "rank none"},
		{"put x:1|h", "put 0"},
		{"rank x{} 0", "rank 0.999424"},
		{"rank x{} 1", "rank 0"},
		{"rank x{} 999999999", "rank 0"},
		{"rank x 0", "rank none"},
		{"rank x{y} 0", "rank none"},
		{"put x:-1|h|T10", "put 0"},
		{"put x:0|h|@0.5|T10", "put 0"},
		{"rank x{} 0", "rank -0.999424"},
		{"rank x{} 1", "rank 0"},
		{"rank x{} 2", "rank 0"},
		{"rank x{} 3", "rank 0.999424"},
		{"rank x{} 4", "rank 0"},
		{"tick 20", "tick 20"},
		{"put x:9|c", "put 0"},
		{"rank x{} 3", "rank 0.999424"},
		{"close", "close 0\nx{} h 1 0 1780:1 - 1000000"},
		{"rank x{} 3", "rank 0"},
		{"rank x{} 0", "rank -0.999424"},
		{"tick 5", "tick 25"},
		{"close", "close 0\nx{} h 2 2 - 1780:1 -1000000"},
		{"rank x{} 0", "rank none"},
		{"put y:0|h|@0.000001", "put 0"},
		{"put y:-5|h", "put 0"},
		{"rank y{} 0", "rank -4.980736"},
		{"rank y{} 1000000", "rank 0"},
	})
	for _, end := range []string{"1|c", "1|g", "one|s"} {
		wantTold(t, "another kind", "put x:"+end+"\nrank x{} 0\n", "put 0\nrank none\n")
	}
}

// TestDeskRankOfManyBins has more bins in two windows together than one may have.
func TestDeskRankOfManyBins(t *testing.T) {
	text := "join left\njoin right\n"
	for i := range 25 {
		text += fmt.Sprintf("put x:0.%06d|h\nput x:0.%06d|h|T10\n", 2*i+1, 2*i+2)
	}
	ahead := plainDeskRun(text).Text
	for _, rank := range []int{0, 19, 20, 21, 22, 48, 49, 50, 51} {
		told := max(rank, 20) + 1
		value := digitsOf(int64(told))
		if rank > 49 {
			value = "0"
		}
		wantTold(t, "many bins", fmt.Sprintf("%srank x{} %d\n", text, rank), fmt.Sprintf("%srank %s\n", ahead, value))
	}
}

func TestDeskMany(t *testing.T) {
	wantEach(t, "in one window and in several", []deskCase{
		{"many x{}", "many 0"},
		{"put x:u|s", "put 0"},
		{"many x{}", "many 1"},
		{"put x:u|s", "put 0"},
		{"many x{}", "many 1"},
		{"put x:u|s|T10", "put 0"},
		{"put x:v|s|T10", "put 0"},
		{"many x{}", "many 2"},
		{"many x", "many 0"},
		{"many x{y}", "many 0"},
		{"join b", "join 0"},
		{"many x{}", "many 2"},
		{"tick 20", "tick 20"},
		{"put x:9|c", "put 0"},
		{"put x:1|h|T30", "put 0"},
		{"many x{}", "many 2"},
		{"close", "close 0\nx{} s 2 " + exactText("u")},
		{"many x{}", "many 2"},
		{"put x:w|s|T10", "put 0"},
		{"many x{}", "many 3"},
		{"tick 5", "tick 25"},
		{"close", "close 0\nx{} s 3 " + exactText("u", "v", "w")},
		{"many x{}", "many 0"},
	})
	for _, end := range []string{"1|c", "1|g", "1|h"} {
		wantTold(t, "another kind", "put x:"+end+"\nmany x{}\n", "put 0\nmany 0\n")
	}
}

// TestDeskManyMore has as many as are told as they are in each of two windows, or in one, and more of them.
func TestDeskManyMore(t *testing.T) {
	for _, time := range []string{"", "|T10"} {
		text := ""
		for i := range 57 {
			text += fmt.Sprintf("put x:u%d|s", i)
			if i%2 == 1 {
				text += time
			}
			text += "\n"
			if i == impl.MaxExact-1 {
				wantTold(t, "MaxExact", text+"many x{}\n", plainDeskRun(text).Text+"many 40\n")
			}
		}
		out := plainDeskRun(text + "many x{}\ntick 15\nclose\n")
		wantTold(t, "more than MaxExact", text+"many x{}\ntick 15\nclose\n", out.Text)
		// The hashes of such words lie close together, so that they seem to be fewer.
		if !strings.Contains(out.Text, "\nmany 46\n") {
			t.Errorf("57 are told as %q", out.Text)
		}
	}
}

func TestDeskTop(t *testing.T) {
	wantEach(t, "more keys than are kept", []deskCase{
		{"top", "top"},
		{"put e:1|c", "put 0"},
		{"top", "top e{}=1"},
		{"put d:1|g", "put 0"},
		{"put c:1|h|@0.1", "put 0"},
		{"put b:u|s", "put 0"},
		{"put a:1|c|#y,x", "put 0"},
		{"top", "top a{x,y}=1 b{}=1 c{}=1 d{}=1 e{}=1"},
		{"put a:1|c|#x,y", "put 0"},
		{"put e:1|g", "put 9"},
		{"put e:1|c|T11", "put 5"},
		{"put b:v|s|T10", "put 0"},
		{"top", "top a{x,y}=2 b{}=2 c{}=1 d{}=1 e{}=1"},
		{"put f:1|c", "put 0"},
		{"top", "top a{x,y}=1 b{}=1"},
		{"put f:1|c", "put 0"},
		{"tick 25", "tick 25"},
		{"close", "close 0\na{x,y} c 2 2000000\nb{} s 1 " + exactText("u") + "\nc{} h 1 0 1780:10 - 10000000\nd{} g 1 1 0\ne{} c 1 1000000\nf{} c 2 2000000"},
		{"top", "top a{x,y}=1 b{}=1 f{}=1"},
		{"join b", "join 0"},
		{"leave a", "leave 0"},
		{"top", "top a{x,y}=1 b{}=1 f{}=1"},
	})
	var l []deskCase
	for i := range impl.MaxTop + 1 {
		l = append(l, deskCase{fmt.Sprintf("put k%d:1|c", i), "put 0"})
	}
	wantEach(t, "all of them go", append(l, deskCase{"top", "top"}))
}

func TestDeskWords(t *testing.T) {
	want := []string{"close", "join", "leave", "many", "put", "rank", "tick", "top", "where"}
	got := impl.DeskWords()
	if !slices.Equal(got, want) {
		t.Fatalf("DeskWords: %q", got)
	}
	for i := range got[:cap(got)] {
		got[:cap(got)][i] = "spoilt"
	}
	if again := impl.DeskWords(); !slices.Equal(again, want) {
		t.Errorf("DeskWords again: %q", again)
	}
	if out := impl.DeskRun("close\ntop\n"); out.Text != "close 11\ntop\n" {
		t.Errorf("DeskRun then: %+v", out)
	}
	// With these words a line may begin, and with no other one.
	words := append(slices.Clone(want), "a", "Close", "closes", "", "tell", "clos", "putt", "TOP", "# end", "x")
	for _, word := range words {
		right := false
		for _, behind := range []string{"", " x", " 1", " x 1"} {
			right = right || impl.DeskFault(word+behind+"\n").Code == impl.OK
		}
		if right != slices.Contains(want, word) {
			t.Errorf("a line that begins with %q: %t", word, right)
		}
	}
}

func TestDeskOfNoLines(t *testing.T) {
	wantTold(t, "no lines", "", "")
}

func TestDeskMaxLines(t *testing.T) {
	for _, line := range []string{"top\n", "tick 1\n", "put x:1|c\n", "close\n", "where a\n"} {
		for _, many := range []int{impl.MaxDesk - 1, impl.MaxDesk} {
			text := strings.Repeat(line, many)
			wantTold(t, "so many lines", text, plainDeskRun(text).Text)
		}
		most := strings.Repeat(line, impl.MaxDesk)
		for _, behind := range []string{line, "\n", "x\n", "top", " ", line + line, "\xff\n", strings.Repeat("\n", 500), "x\n" + line} {
			wantLineFault(t, "one too many", most+behind, impl.MaxDesk)
		}
		wantLineFault(t, "a wrong one ahead of one too many", strings.Repeat(line, 7)+"x\n"+most, 7)
		wantLineFault(t, "the last that may be is wrong", most[len(line):]+"x\n"+line, impl.MaxDesk-1)
		wantLineFault(t, "the last that may be lacks its line feed", most[:len(most)-1], impl.MaxDesk-1)
	}
}

func TestDeskSize(t *testing.T) {
	word := strings.Repeat("w", impl.MaxBytes-len("where \n"))
	wantTold(t, "MaxBytes", "where "+word+"\n", "where a\n")
	wantTold(t, "MaxBytes, of a line to put", "put xx"+word+"\n", "put 3\n")
	wantTold(t, "MaxBytes, of a name", "join x"+word+"\n", "join 1\n")
	wantTold(t, "MaxBytes, of a series", "many x"+word+"\n", "many 0\n")
	wantTold(t, "MaxBytes, of a rank's series", "rank "+word[1:]+" 0\n", "rank none\n")
	for what, text := range map[string]string{
		"one more":                       "where w" + word + "\n",
		"one more, the first line is no": "x\nwhere " + word + "\n",
		"line feeds":                     strings.Repeat("\n", impl.MaxBytes+1),
		"far more":                       strings.Repeat("top\n", impl.MaxBytes),
		"no line":                        tooLong,
	} {
		wantDeskOut(t, what, text, impl.DeskOut{Code: impl.ErrSize})
	}
	wantLineFault(t, "MaxBytes of line feeds", strings.Repeat("\n", impl.MaxBytes), 0)
	wantLineFault(t, "MaxBytes without a line", tooLong[1:], 0)
	wantLineFault(t, "MaxBytes of too many lines", strings.Repeat("top\n", impl.MaxBytes/4), impl.MaxDesk)
	// A line's tags may come as often as the text has room for.
	often := "put x:1|c|#" + strings.Repeat("t,", 9000) + "t\n"
	wantTold(t, "a tag that comes often", often+"top\n", "put 0\ntop x{t}=1\n")
}

func TestDeskNumbers(t *testing.T) {
	for _, n := range []string{"0", "1", "5", "9", "10", "99", "100", "12345678", "123456789", "999999999", "100000000"} {
		wantTold(t, "N", "tick "+n+"\nrank x{} "+n+"\n", "tick "+n+"\nrank none\n")
	}
	for _, n := range []string{
		"00", "01", "09", "000000000", "000000001", "0000000000", "0000000001", "1000000000", "1234567890", "9999999999", "18446744073709551616", "99999999999999999999",
		"-1", "+1", "-0", "+0", "-", "+", "1-", "1+", "1.0", "1.", ".1", "0x1", "0b1", "0o7", "1e3", "1_0", "1_000", "a", "1a", "a1", "N", "ten", "1,", "1\t", "\t1", "1\r", "\r",
		"1\x00", "\xff", "1\xff", "\u0661", "\uff11", "\u00b2", "1\u00a0", "1\u2028",
	} {
		wantLineFault(t, "no N of tick", "tick "+n+"\n", 0)
		wantLineFault(t, "no N of rank", "top\nrank x{} "+n+"\n", 1)
		wantLineFault(t, "no N of rank, a number as the series", "rank 1 "+n+"\n", 0)
	}
}

// rightLines are of each of the nine.
func rightLines() []string {
	return []string{"put hits:1|c", "join b", "leave b", "tick 15", "close", "where hits{}", "rank took{} 0", "many users{}", "top"}
}

// wrongLines are no lines of a desk, whatever stands ahead of them.
func wrongLines() []string {
	l := []string{
		"", " ", "  ", "\t", "\r", "\x00", "x", "PUT x:1|c", "Top", "tops", "to", "puthits:1|c", "put:hits:1|c", "help", "# end", "# window 0", "end", "0", "15", "hits:1|c",
		"\xff", "\xff\xfe\x80", "\xc0\x8a", "\xe2\x82", "\ufffd", "top\xff", "\xfftop", "top\x00", "\x00top", "top\r", "top\t", "\ttop", "\u00a0top", "top\u00a0", "top\u2028", "close\v", "close\f",
		"put\thits:1|c", "tick\u00a015", "rank took{}\t0", "\ufefftop",
		"tick", "tick x", "tick 1 2", "tick 15 x", "rank took{}", "rank 0", "rank", "rank took{} x", "rank took{} 0 1", "rank took{} took{} 0", "rank 0 took{}",
		"tick -1", "tick +1", "tick 01", "tick 1000000000", "rank took{} -1", "rank took{} 00", "rank took{} 1000000000", "top top", "close close", "close 0", "top 1",
	}
	for _, line := range rightLines() {
		l = append(l, " "+line, line+" ", " "+line+" ", line+" x", line+"  x", line+" 1", strings.ToUpper(line), line+"\xff 1", line+" \xff")
		if word, rest, more := strings.Cut(line, " "); more {
			l = append(l, word, word+" ", word+"  "+rest, word+"\t"+rest, word+" "+strings.Replace(rest, " ", "  ", 1)+" ", word+"\xff "+rest, word+"\n"+rest)
		}
	}
	l = append(l, "rank took{}  0", "rank  took{} 0", "rank  0")
	return slices.DeleteFunc(l, func(line string) bool { return deskForm.MatchString(line + "\n") })
}

func TestDeskWrongLines(t *testing.T) {
	l := wrongLines()
	if len(l) < 150 {
		t.Fatalf("%d wrong lines only", len(l))
	}
	whole := strings.Join(rightLines(), "\n") + "\n"
	for i, line := range l {
		for _, right := range rightLines() {
			wantLineFault(t, "behind a right one", right+"\n"+line+"\n", 1)
			wantLineFault(t, "ahead of a right one", line+"\n"+right+"\n", 0)
		}
		wantLineFault(t, "alone", line+"\n", 0)
		wantLineFault(t, "alone, without a line feed", "top\n"+line+"!", 1)
		wantLineFault(t, "behind all", whole+line+"\n", 9)
		wantLineFault(t, "between all", whole+line+"\n"+whole, 9)
		wantLineFault(t, "the first of two", whole+line+"\ntop\n"+l[(i+7)%len(l)]+"\n", 9)
		wantLineFault(t, "the first of two, in front", l[(i+7)%len(l)]+"\n"+whole+line+"\n", 0)
		wantLineFault(t, "at the last place that may be", strings.Repeat("top\n", impl.MaxDesk-1)+line+"\n", impl.MaxDesk-1)
	}
}

func TestDeskWithoutALineFeed(t *testing.T) {
	whole := strings.Join(rightLines(), "\n") + "\n"
	for _, line := range rightLines() {
		wantLineFault(t, "alone", line, 0)
		wantLineFault(t, "behind others", whole+line, 9)
		wantLineFault(t, "behind a wrong one", whole+"x\n"+whole+line, 9)
		wantLineFault(t, "with a blank", "top\n"+line+" ", 1)
		wantLineFault(t, "with another end", line+"\r", 0)
		wantLineFault(t, "with a line feed of another kind", line+"\u0085", 0)
		wantLineFault(t, "with one more line feed", line+"\n\n", 1)
		wantLineFault(t, "with one ahead", "\n"+line+"\n", 0)
		wantDeskOut(t, "with line feeds of two bytes", line+"\r\ntop\r\n", plainDeskRun(line+"\r\ntop\r\n"))
	}
	for _, rest := range []string{" ", "  ", "x", "\xff", "\x00", "t"} {
		wantLineFault(t, "a rest", rest, 0)
		wantLineFault(t, "a rest behind lines", whole+rest, 9)
	}
}

// someDeskLine comes to what the desk has; now and then it is asked for what is not there.
func someDeskLine(s *steps, d *plainDesk) string {
	series := fmt.Sprintf("m%d{%s}", s.next()%5, []string{"", "x,y"}[s.next()%2])
	name := []string{"a", "left", "right", "one", "two", "three", "zz", "B"}[s.next()%8]
	switch n := s.next() % 24; {
	case n < 10:
		return "put " + someLine(s, d.plainPipe, 9)
	case n < 12:
		return "join " + name
	case n < 14:
		return "leave " + name
	case n < 16:
		return fmt.Sprintf("tick %d", s.next()%16)
	case n < 18:
		return "close"
	case n < 19:
		return "where " + series
	case n < 21:
		return fmt.Sprintf("rank %s %d", series, s.next()%(1<<(s.next()%20)))
	case n < 23:
		return "many " + series
	}
	return "top"
}

// someDesk is right, and tells what the second text says.
func someDesk(seed uint64, many int) (string, string) {
	s := steps(seed*977 + 13)
	d := newPlainDesk()
	text, told := "", ""
	for range many {
		line := someDeskLine(&s, &d) + "\n"
		text += line
		told += d.tell(line)
	}
	return text, told
}

func TestSomeDesks(t *testing.T) {
	told := map[string]int{}
	for seed := range uint64(150) {
		text, want := someDesk(seed, 1+int(seed)%impl.MaxDesk)
		wantTold(t, fmt.Sprintf("the desk %d", seed), text, want)
		for line := range strings.Lines(want) {
			told[strings.TrimSuffix(line, "\n")]++
		}
	}
	for line, least := range map[string]int{
		"put 0": 300, "put 9": 10, "put 11": 30, "put 5": 10, "join 0": 50, "join 1": 5, "join 7": 20, "leave 0": 20, "leave 1": 5, "leave 6": 50, "leave 8": 3,
		"close 0": 50, "close 11": 50, "rank none": 100, "rank 0": 5, "many 0": 100, "many 1": 5, "many 2": 1, "top": 2, "where a": 5, "where left": 1,
	} {
		if told[line] < least {
			t.Errorf("%q was told %d times only", line, told[line])
		}
	}
}

// checkBeginnings holds promise 22 of a right desk, at each place of its text.
func checkBeginnings(t *testing.T, what string, text string) {
	t.Helper()
	all := impl.DeskRun(text)
	if all.Code != impl.OK || all.Line != 0 {
		t.Fatalf("%s: %+v", what, all)
	}
	line, shorter := int64(0), -1
	for at := range len(text) + 1 {
		if at > 0 && text[at-1] != '\n' {
			wantLineFault(t, what+", a piece of a line", text[:at], line)
			continue
		}
		got := impl.DeskRun(text[:at])
		if got.Code != impl.OK || got.Line != 0 || !strings.HasPrefix(all.Text, got.Text) || len(got.Text) <= shorter {
			t.Fatalf("%s, up to %d: %+v, and all tell %q", what, at, got, all.Text)
		}
		if strings.Count(got.Text, "\n") < strings.Count(text[:at], "\n") || got.Text != "" && !strings.HasSuffix(got.Text, "\n") {
			t.Fatalf("%s, up to %d: %q", what, at, got.Text)
		}
		shorter = len(got.Text)
		if at > 0 {
			line++
		}
	}
	if shorter != len(all.Text) {
		t.Fatalf("%s: all lines tell %q only", what, all.Text[:shorter])
	}
}

func TestPromise22TheFirstLines(t *testing.T) {
	checkBeginnings(t, "no lines", "")
	for _, line := range rightLines() {
		checkBeginnings(t, line, strings.Repeat(line+"\n", 5))
	}
	for seed := range uint64(25) {
		text, _ := someDesk(seed+5000, impl.MaxDesk)
		checkBeginnings(t, fmt.Sprintf("the desk %d", seed), text)
	}
}

// closedLines are told of each window that a desk closes.
func closedLines(told string) [][]string {
	var windows [][]string
	for line := range strings.Lines(told) {
		line = strings.TrimSuffix(line, "\n")
		word, _, _ := strings.Cut(line, " ")
		if line == "close 0" {
			windows = append(windows, nil)
		} else if strings.HasSuffix(word, "}") {
			windows[len(windows)-1] = append(windows[len(windows)-1], line)
		}
	}
	return windows
}

// expoLines are those of the text of one alone's cells of a window.
func expoLines(t *testing.T, l []placed, window int64) []string {
	t.Helper()
	own := slices.DeleteFunc(slices.Clone(l), func(p placed) bool { return p.window != window })
	alone := impl.CellsOf(stampedOf(own))
	lines := strings.Split(strings.TrimSuffix(impl.ExpoText(alone.Cells), "\n"), "\n")
	if alone.Code != impl.OK || lines[0] != fmt.Sprintf("# window %d", window) && len(alone.Cells) > 0 || lines[len(lines)-1] != "# end" {
		t.Fatalf("one alone: %+v, %q", alone, lines)
	}
	return lines[1 : len(lines)-1]
}

// TestPromise23PutIsTold has members come and leave ahead of each line, and holds what is told of each
// window against one alone.
func TestPromise23PutIsTold(t *testing.T) {
	windows := 0
	for seed := range uint64(60) {
		s := steps(seed + 70000)
		d := newPlainDesk()
		var taken []placed
		text, told := "", ""
		add := func(line string) {
			text += line + "\n"
			told += d.tell(line + "\n")
		}
		for range 22 {
			name := []string{"a", "left", "right", "one", "two", "three", "zz"}[s.next()%7]
			if slices.Contains(d.members, name) {
				add("leave " + name)
			} else {
				add("join " + name)
			}
			line := someLine(&s, d.plainPipe, 12)
			p := d.stamped(line)
			before := len(d.open)
			if add("put " + line); len(d.open) > before {
				taken = append(taken, p)
			}
			if s.next()%4 == 0 {
				add(fmt.Sprintf("tick %d", s.next()%9))
			}
		}
		room := impl.MaxDesk - strings.Count(text, "\n")
		add("tick 40")
		for range min(room-1, 5) {
			add("close")
		}
		got := impl.DeskRun(text)
		if got != (impl.DeskOut{Text: told}) {
			t.Fatalf("seed %d: %q tells %+v, want %q", seed, text, got, told)
		}
		for window, lines := range closedLines(got.Text) {
			windows++
			if want := expoLines(t, taken, int64(window)); !slices.Equal(lines, want) {
				t.Fatalf("seed %d, the window %d: %q, want %q", seed, window, lines, want)
			}
		}
	}
	if windows < 150 {
		t.Errorf("%d windows were told only", windows)
	}
}

// TestPromise23WhoeverCameAndLeft takes the members' lines out of a desk: all others tell the same.
func TestPromise23WhoeverCameAndLeft(t *testing.T) {
	for seed := range uint64(60) {
		text, _ := someDesk(seed+900, impl.MaxDesk)
		rest, want := "", ""
		ownText := impl.DeskRun(text).Text
		for line := range strings.Lines(text) {
			if !regexp.MustCompile(`^(join|leave|where)`).MatchString(line) {
				rest += line
			}
		}
		for line := range strings.Lines(ownText) {
			if !regexp.MustCompile(`^(join|leave|where)`).MatchString(line) {
				want += line
			}
		}
		if got := impl.DeskRun(rest); got != (impl.DeskOut{Text: want}) {
			t.Fatalf("seed %d: without members %q tells %+v, want %q", seed, rest, got, want)
		}
	}
}

// TestPromise23AllKindsOfMembers puts each kind, and has each number of members in between.
func TestPromise23AllKindsOfMembers(t *testing.T) {
	puts := []string{"hits:1|c", "level:5|g|#x", "took:-7|h|@0.5", "users:ann|s", "hits:2.5|c|#b,a", "took:3|h", "users:bob|s", "level:4|g|#x"}
	want := "close 0\nhits{a,b} c 1 2500000\nhits{} c 1 1000000\nlevel{x} g 2 5 0\ntook{} h 2 0 1975:1 2133:2 -11000000\n" +
		"users{} s 2 " + exactText("ann", "bob") + "\n"
	for many := range impl.MaxMembers {
		names := rightMembersOf(many + 1)[1:]
		text := ""
		for i, line := range puts {
			text += "put " + line + "\n"
			for j, name := range names {
				if j%len(puts) == i {
					text += "join " + name + "\n"
				}
			}
		}
		for _, name := range shuffled(names, uint64(many)) {
			text += "leave " + name + "\n"
		}
		if many > 0 {
			text += "join zz\nleave a\n"
		}
		text += "tick 15\nclose\n"
		got := impl.DeskRun(text)
		if got.Code != impl.OK || !strings.HasSuffix(got.Text, "tick 15\n"+want) {
			t.Errorf("%d members more: %q tells %+v, want %q at its end", many, text, got, want)
		}
	}
}

// TestDesksThatAreChanged has right desks with some bytes of others: most are wrong then, at some line.
func TestDesksThatAreChanged(t *testing.T) {
	s := steps(77)
	codes := map[int64]int{}
	for seed := range uint64(120) {
		right, _ := someDesk(seed+300, 12)
		for range 12 {
			text := []byte(right)
			for range 1 + s.next()%2 {
				at := s.next() % uint64(len(text))
				switch s.next() % 4 {
				case 0:
					text[at] = text[s.next()%uint64(len(text))]
				case 1:
					text = slices.Delete(text, int(at), int(at)+1)
				case 2:
					text = slices.Insert(text, int(at), " \n0\xff"[s.next()%4])
				default:
					text[at] = byte(s.next())
				}
			}
			want := plainDeskRun(string(text))
			codes[want.Code]++
			wantDeskOut(t, "changed", string(text), want)
		}
	}
	if codes[impl.OK] < 200 || codes[impl.ErrSyntax] < 200 {
		t.Errorf("the codes are %v", codes)
	}
}

func TestDeskOfAnyBytes(t *testing.T) {
	s := steps(8)
	pieces := []string{"put ", "join ", "leave ", "tick ", "close", "where ", "rank ", "many ", "top", " ", "\n", "\n", "\n", "0", "1", "x", "x{}", "x:1|h", "x:u|s", "\xff", "\xe2\x82", "é", "\r", "\x00"}
	for range 4000 {
		text := ""
		for range s.next() % 30 {
			text += pieces[s.next()%uint64(len(pieces))]
		}
		wantDeskOut(t, "any pieces", text, plainDeskRun(text))
		var bytes []byte
		for range s.next() % 40 {
			bytes = append(bytes, byte(s.next()))
		}
		wantDeskOut(t, "any bytes", string(bytes), plainDeskRun(string(bytes)))
	}
}

// TestDesksKeepNothing has other desks, and refused ones, in between.
func TestDesksKeepNothing(t *testing.T) {
	text, want := someDesk(4, impl.MaxDesk)
	for i := range uint64(20) {
		other, told := someDesk(i+40, 20)
		wantTold(t, "another", other, told)
		wantLineFault(t, "a refused one", other+"x\n", 20)
		wantTold(t, "again", text, want)
	}
}
