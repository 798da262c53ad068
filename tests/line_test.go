package tests

import (
	"fmt"
	"math"
	"math/big"
	"regexp"
	"slices"
	"strings"
	"testing"

	"loop.example/g00309/impl"
)

const greatestTime = 1000000000

var (
	nameForm   = regexp.MustCompile(`^[a-z][a-z0-9_.]{0,39}\z`)
	tagForm    = regexp.MustCompile(`^[a-z0-9_.:-]{1,20}\z`)
	valueForm  = regexp.MustCompile(`^-?(0|[1-9][0-9]{0,11})(\.[0-9]{1,6})?\z`)
	lineForm   = regexp.MustCompile(`(?s)^([^:]*):([^|]*)\|([^|]*)(\|.*)?\z`)
	behindForm = regexp.MustCompile(`(?s)^(\|@[^|]*)?(\|#[^|]*)?(\|T(?:0|[1-9][0-9]*))?\z`)
)

// plainValue is a value's millionths, if the text is one.
func plainValue(text string) (int64, bool) {
	if !valueForm.MatchString(text) {
		return 0, false
	}
	v, _ := new(big.Rat).SetString(text)
	v.Mul(v, big.NewRat(1000000, 1))
	return v.Num().Int64(), true
}

// plainSeries is told by sorting, apart from the program's way.
func plainSeries(name string, tags []string) string {
	once := slices.Clone(tags)
	slices.Sort(once)
	once = slices.Compact(once)
	text := name + "{" + strings.Join(once, ",") + "}"
	if !nameForm.MatchString(name) || len(once) > 8 || len(text) > 100 {
		return ""
	}
	for _, tag := range once {
		if !tagForm.MatchString(tag) {
			return ""
		}
	}
	return text
}

// plainLine reads a line by patterns, one fault after the other.
func plainLine(text string) impl.SampleOut {
	refused := func(code int64) impl.SampleOut { return impl.SampleOut{Code: code} }
	if len(text) > impl.MaxBytes {
		return refused(impl.ErrSize)
	}
	parts := lineForm.FindStringSubmatch(text)
	if parts == nil {
		return refused(impl.ErrSyntax)
	}
	behind := behindForm.FindStringSubmatch(parts[4])
	if behind == nil {
		return refused(impl.ErrSyntax)
	}
	var tags []string
	if behind[2] != "" {
		tags = strings.Split(behind[2][2:], ",")
	}
	x := impl.Sample{Series: plainSeries(parts[1], tags), Weight: 1}
	if behind[3] != "" {
		when, _ := new(big.Int).SetString(behind[3][2:], 10)
		if when.Cmp(big.NewInt(greatestTime)) > 0 {
			return refused(impl.ErrSyntax)
		}
		x.Timed, x.Time = true, when.Int64()
	}
	if x.Series == "" {
		return refused(impl.ErrSyntax)
	}
	x.Kind = map[string]int64{"c": impl.Counter, "g": impl.Gauge, "h": impl.Histogram, "s": impl.Set}[parts[3]]
	if x.Kind == 0 {
		return refused(impl.ErrKind)
	}
	right := false
	if x.Kind == impl.Set {
		x.Word, right = parts[2], tagForm.MatchString(parts[2])
	} else {
		x.Value, right = plainValue(parts[2])
	}
	if !right {
		return refused(impl.ErrSyntax)
	}
	if behind[1] != "" {
		rate, right := plainValue(behind[1][2:])
		if !right || rate < 1 || rate > 1000000 || x.Kind == impl.Gauge || x.Kind == impl.Set {
			return refused(impl.ErrRate)
		}
		x.Weight = uint64(1000000 / rate)
	}
	return impl.SampleOut{Sample: x}
}

// plainLineText tells the line, whether or not its Weight comes back.
func plainLineText(x impl.Sample) string {
	name, tags, _ := strings.Cut(strings.TrimSuffix(x.Series, "}"), "{")
	text := name + ":"
	if x.Kind == impl.Set {
		text += x.Word
	} else {
		text += digitsOf(x.Value)
	}
	text += map[int64]string{impl.Counter: "|c", impl.Gauge: "|g", impl.Histogram: "|h", impl.Set: "|s"}[x.Kind]
	if x.Weight > 1 {
		text += "|@" + digitsOf(1000000/int64(x.Weight))
	}
	if tags != "" {
		text += "|#" + tags
	}
	if x.Timed {
		text += fmt.Sprintf("|T%d", x.Time)
	}
	return text
}

// weightComesBack asks whether the rate of a Weight tells that Weight.
func weightComesBack(weight uint64) bool {
	rate := 1000000 / weight
	return 1000000/rate == weight
}

// numberedTags are all different, each of so many bytes.
func numberedTags(many int, size int) []string {
	var l []string
	for i := range many {
		l = append(l, fmt.Sprintf("%0*d", size, i))
	}
	return l
}

func TestTagRight(t *testing.T) {
	for _, tag := range []string{"a", "z", "0", "9", "_", ".", "-", ":", "a:1", "--", "zone:eu-1.b_2", strings.Repeat("t", 20), strings.Repeat(":", 20)} {
		if !impl.TagRight(tag) {
			t.Errorf("TagRight(%q): false", tag)
		}
	}
	for _, tag := range []string{"", "A", "a b", "a,b", "a|b", "a{", "}", "a#", "@", "ä", "a\n", "a\x00", "1/2", strings.Repeat("t", 21), strings.Repeat("t", impl.MaxBytes), strings.Repeat("t", impl.MaxBytes+1)} {
		if impl.TagRight(tag) {
			t.Errorf("TagRight(%q): true", tag)
		}
	}
	for c := range 256 {
		for _, tag := range []string{string([]byte{byte(c)}), string([]byte{'a', byte(c), 'b'})} {
			if got, want := impl.TagRight(tag), tagForm.MatchString(tag); got != want {
				t.Errorf("TagRight(%q): %v, want %v", tag, got, want)
			}
		}
	}
}

// longSeries have a name and tags so that the series has so many bytes, of 50 to 104.
func longSeries(size int) (string, []string) {
	tags := []string{strings.Repeat("a", 20), strings.Repeat("b", 19)}
	rest := size - 42
	for next := byte('c'); rest > 40; next++ {
		tags = append(tags, strings.Repeat(string(next), 18))
		rest -= 19
	}
	return strings.Repeat("n", rest), tags
}

func TestSeriesRight(t *testing.T) {
	hundred := plainSeries(longSeries(100))
	if len(hundred) != 100 {
		t.Fatalf("a series of %d bytes", len(hundred))
	}
	for _, series := range []string{
		"a{}", "a{a}", "a{a,b}", "hits.per_s2{a:1,z}", "a{-,.,0,9,:,_,a,z}", "a{" + strings.Join(numberedTags(8, 2), ",") + "}",
		"a{a,aa,ab,b}", "a{" + strings.Repeat("t", 20) + "}", strings.Repeat("n", 40) + "{}", hundred,
	} {
		if !impl.SeriesRight(series) {
			t.Errorf("SeriesRight(%q): false", series)
		}
	}
	for _, series := range []string{
		"", "a", "{}", "a{", "a}", "a{}}", "a{{}", "a{}x", "xa{}{}", " a{}", "a{} ", "A{}", "1{}", "_{}", strings.Repeat("n", 41) + "{}",
		"a{,}", "a{,a}", "a{a,}", "a{a,,b}", "a{a b}", "a{a, b}", "a{A}", "a{a{}}", "a{a}}", "a{" + strings.Repeat("t", 21) + "}",
		"a{b,a}", "a{a,a}", "a{a,b,a}", "a{a,b,b}", "a{b,b,c}", "a{aa,a}",
		"a{" + strings.Join(numberedTags(9, 2), ",") + "}",
		strings.Replace(hundred, "n{", "nn{", 1), "a{" + strings.Repeat("a", impl.MaxBytes) + "}",
	} {
		if impl.SeriesRight(series) {
			t.Errorf("SeriesRight(%q): true", series)
		}
	}
}

func TestSeriesOf(t *testing.T) {
	for size := 50; size <= 104; size++ {
		name, tags := longSeries(size)
		want := name + "{" + strings.Join(tags, ",") + "}"
		if len(want) != size {
			t.Fatalf("%q has %d bytes, want %d", want, len(want), size)
		}
		if size > 100 {
			want = ""
		}
		if got := impl.SeriesOf(name, tags); got != want || impl.SeriesRight(got) != (size <= 100) {
			t.Errorf("SeriesOf(%q, %q): %q, want %q", name, tags, got, want)
		}
	}
	many := slices.Repeat([]string{"b", "a"}, impl.MaxList/2)
	for _, c := range []struct {
		name string
		tags []string
		want string
	}{
		{"a", nil, "a{}"},
		{"a", []string{}, "a{}"},
		{"a", []string{"z", "b"}, "a{b,z}"},
		{"a", []string{"b", "ba", "b:", "b-"}, "a{b,b-,b:,ba}"},
		{"a", numberedTags(8, 1), "a{0,1,2,3,4,5,6,7}"},
		{"a", slices.Repeat(numberedTags(8, 1), 50), "a{0,1,2,3,4,5,6,7}"},
		{"a", many, "a{a,b}"},
		{"a", append(many, "a"), ""},
		{"a", numberedTags(9, 1), ""},
		{"a", []string{"b", ""}, ""},
		{"a", []string{""}, ""},
		{"a", []string{"b,c"}, ""},
		{"a", []string{"b", "C"}, ""},
		{"a", []string{strings.Repeat("t", 21)}, ""},
		{"a", []string{strings.Repeat("t", impl.MaxBytes+1)}, ""},
		{"", nil, ""},
		{"A", nil, ""},
		{"a{}", nil, ""},
		{"a:b", nil, ""},
		{strings.Repeat("n", 40), nil, strings.Repeat("n", 40) + "{}"},
		{strings.Repeat("n", 41), nil, ""},
		{strings.Repeat("n", impl.MaxBytes+1), nil, ""},
	} {
		if got := impl.SeriesOf(c.name, c.tags); got != c.want {
			t.Errorf("SeriesOf(%.50q, %.100q): %q, want %q", c.name, c.tags, got, c.want)
		}
	}
}

// someTags are tags of few kinds, so that some come more often.
func someTags(s *steps) []string {
	var tags []string
	for range s.next() % 10 {
		tag := ""
		for range 1 + s.next()%3 {
			tag += string("ab:-._09z"[s.next()%9])
		}
		tags = append(tags, tag)
	}
	return tags
}

func TestPromise11AnyOrderOfTags(t *testing.T) {
	s := steps(11)
	for range 2000 {
		tags := someTags(&s)
		want := plainSeries("hits", tags)
		again := shuffled(append(slices.Clone(tags), tags...), s.next())
		again = append(again, tags[:len(tags)/2]...)
		for _, l := range [][]string{tags, again, shuffled(tags, s.next())} {
			before := slices.Clone(l)
			if got := impl.SeriesOf("hits", l); got != want {
				t.Fatalf("SeriesOf(hits, %q): %q, want %q", l, got, want)
			}
			if !slices.Equal(l, before) {
				t.Fatalf("SeriesOf changed its tags %q to %q", before, l)
			}
			if len(l) == 0 {
				continue
			}
			line := "hits:1|c|#" + strings.Join(l, ",")
			if got := impl.LineRead(line); got.Sample.Series != want || (got.Code == impl.OK) != (want != "") {
				t.Fatalf("LineRead(%q): %+v, want the series %q", line, got, want)
			}
		}
	}
}

// rightSamples are at the edges of what is right; some have no line.
func rightSamples() []impl.Sample {
	hundred := plainSeries(longSeries(100))
	var l []impl.Sample
	for _, series := range []string{"a{}", "hits{a:1,z}", "a{" + strings.Join(numberedTags(8, 2), ",") + "}", hundred} {
		for _, when := range []int64{-1, 0, 7, greatestTime} {
			timed := when >= 0
			when = max(when, 0)
			for _, word := range []string{"u", "-", "a:1", strings.Repeat("w", 20), "0"} {
				l = append(l, impl.Sample{Kind: impl.Set, Series: series, Word: word, Weight: 1, Timed: timed, Time: when})
			}
			for _, v := range []int64{0, 1, -1, 2500000, impl.MaxValue, -impl.MaxValue} {
				l = append(l, impl.Sample{Kind: impl.Gauge, Series: series, Value: v, Weight: 1, Timed: timed, Time: when})
				for _, weight := range []uint64{1, 2, 3, 999, 1001, 1500, 500000, 500001, 999999, 1000000} {
					l = append(l, impl.Sample{Kind: impl.Counter, Series: series, Value: v, Weight: weight, Timed: timed, Time: when})
					l = append(l, impl.Sample{Kind: impl.Histogram, Series: series, Value: v, Weight: weight, Timed: timed, Time: when})
				}
			}
		}
	}
	return l
}

func wrongSamples() map[string]impl.Sample {
	right := impl.Sample{Kind: impl.Counter, Series: "a{b}", Value: 5, Weight: 2, Timed: true, Time: 3}
	gauge := impl.Sample{Kind: impl.Gauge, Series: "a{b}", Value: 5, Weight: 1}
	set := impl.Sample{Kind: impl.Set, Series: "a{b}", Word: "w", Weight: 1}
	m := map[string]impl.Sample{"zero": {}}
	add := func(what string, x impl.Sample, spoil func(*impl.Sample)) {
		spoil(&x)
		m[what] = x
	}
	for _, kind := range []int64{0, 5, -1, math.MinInt64, math.MaxInt64, 257} {
		add(fmt.Sprintf("kind %d", kind), right, func(x *impl.Sample) { x.Kind = kind })
	}
	for _, series := range []string{"", "a", "a{b", "a{c,b}", "a{b,b}", "A{}", strings.Repeat("a", impl.MaxBytes+1)} {
		add(fmt.Sprintf("series %.20q", series), right, func(x *impl.Sample) { x.Series = series })
	}
	for _, v := range []int64{impl.MaxValue + 1, -impl.MaxValue - 1, math.MaxInt64, math.MinInt64} {
		add(fmt.Sprintf("value %d", v), right, func(x *impl.Sample) { x.Value = v })
		add(fmt.Sprintf("gauge's value %d", v), gauge, func(x *impl.Sample) { x.Value = v })
		add(fmt.Sprintf("set's value %d", v), set, func(x *impl.Sample) { x.Value = v })
	}
	for _, weight := range []uint64{0, 1000001, math.MaxUint64} {
		add(fmt.Sprintf("weight %d", weight), right, func(x *impl.Sample) { x.Weight = weight })
		add(fmt.Sprintf("gauge's weight %d", weight), gauge, func(x *impl.Sample) { x.Weight = weight })
		add(fmt.Sprintf("set's weight %d", weight), set, func(x *impl.Sample) { x.Weight = weight })
	}
	for _, when := range []int64{-1, greatestTime + 1, math.MinInt64, math.MaxInt64} {
		add(fmt.Sprintf("time %d", when), right, func(x *impl.Sample) { x.Time = when })
		add(fmt.Sprintf("time %d, not timed", when), gauge, func(x *impl.Sample) { x.Time = when })
	}
	for _, word := range []string{"", "W", "a,b", strings.Repeat("w", 21), strings.Repeat("w", impl.MaxBytes+1)} {
		add(fmt.Sprintf("set's word %.30q", word), set, func(x *impl.Sample) { x.Word = word })
	}
	add("a time, not timed", right, func(x *impl.Sample) { x.Timed = false })
	add("gauge's weight 2", gauge, func(x *impl.Sample) { x.Weight = 2 })
	add("set's weight 2", set, func(x *impl.Sample) { x.Weight = 2 })
	add("set's value 1", set, func(x *impl.Sample) { x.Value = 1 })
	add("set's value -1", set, func(x *impl.Sample) { x.Value = -1 })
	add("counter's word", right, func(x *impl.Sample) { x.Word = "w" })
	add("gauge's word", gauge, func(x *impl.Sample) { x.Word = "w" })
	add("histogram's word", right, func(x *impl.Sample) { x.Kind, x.Word = impl.Histogram, "w" })
	return m
}

func TestSampleRight(t *testing.T) {
	for _, x := range rightSamples() {
		if !impl.SampleRight(x) {
			t.Errorf("SampleRight(%+v): false", x)
		}
	}
	for what, x := range wrongSamples() {
		if impl.SampleRight(x) {
			t.Errorf("%s: a right sample", what)
		}
		if got := impl.LineText(x); got != "" {
			t.Errorf("%s: LineText %q", what, got)
		}
	}
}

// checkBack asks for the line that a right sample must have, and for the sample back.
func checkBack(t *testing.T, x impl.Sample) {
	t.Helper()
	want := ""
	if weightComesBack(x.Weight) {
		want = plainLineText(x)
	}
	line := impl.LineText(x)
	if line != want {
		t.Fatalf("LineText(%+v): %q, want %q", x, line, want)
	}
	if line == "" {
		return
	}
	if got := impl.LineRead(line); got != (impl.SampleOut{Sample: x}) {
		t.Fatalf("LineRead(%q): %+v, want %+v", line, got, x)
	}
}

func TestPromise10SamplesComeBack(t *testing.T) {
	for _, x := range rightSamples() {
		checkBack(t, x)
	}
	s := steps(10)
	for _, v := range someValues() {
		tags := someTags(&s)
		series := plainSeries("some.name_"+fmt.Sprint(s.next()%100), tags[:min(len(tags), impl.MaxTags)])
		kind := int64(1 + s.next()%4)
		x := impl.Sample{Kind: kind, Series: series, Value: v, Weight: 1}
		if kind == impl.Set {
			x.Value, x.Word = 0, fmt.Sprintf("u-%d", s.next()%1000000)
		} else if kind != impl.Gauge {
			x.Weight = 1 + s.next()%1000000>>(s.next()%20)
		}
		if s.next()%2 == 0 {
			x.Timed, x.Time = true, int64(s.next()%(greatestTime+1))
		}
		checkBack(t, x)
	}
}

func TestPromise10Weights(t *testing.T) {
	with, without := 0, 0
	check := func(weight uint64) {
		if weight < 1 || weight > 1000000 {
			return
		}
		checkBack(t, impl.Sample{Kind: impl.Counter, Series: "a{}", Value: 1, Weight: weight})
		if weightComesBack(weight) {
			with++
		} else {
			without++
		}
	}
	for weight := range uint64(3000) {
		check(weight)
		check(1000001 - weight)
		check(1000000/(weight+1) - 1)
		check(1000000 / (weight + 1))
		check(1000000/(weight+1) + 1)
	}
	if with < 1000 || without < 1000 {
		t.Errorf("%d Weights that have a line, %d that have none", with, without)
	}
}

func TestLineRead(t *testing.T) {
	for line, want := range map[string]impl.Sample{
		"hits:2.5|c|@0.5|#z,a:1,z|T7":         {Kind: impl.Counter, Series: "hits{a:1,z}", Value: 2500000, Weight: 2, Timed: true, Time: 7},
		"a:1|c":                               {Kind: impl.Counter, Series: "a{}", Value: 1000000, Weight: 1},
		"a:-0.50|c|@1":                        {Kind: impl.Counter, Series: "a{}", Value: -500000, Weight: 1},
		"a:-0|c|@1.000000":                    {Kind: impl.Counter, Series: "a{}", Weight: 1},
		"a:1|c|@0.000001":                     {Kind: impl.Counter, Series: "a{}", Value: 1000000, Weight: 1000000},
		"a:1|h|@0.999999":                     {Kind: impl.Histogram, Series: "a{}", Value: 1000000, Weight: 1},
		"a:1|h|@0.3":                          {Kind: impl.Histogram, Series: "a{}", Value: 1000000, Weight: 3},
		"a:1|h|@0.10":                         {Kind: impl.Histogram, Series: "a{}", Value: 1000000, Weight: 10},
		"a:999999999999.999999|g":             {Kind: impl.Gauge, Series: "a{}", Value: impl.MaxValue, Weight: 1},
		"a:-999999999999.999999|g|T0":         {Kind: impl.Gauge, Series: "a{}", Value: -impl.MaxValue, Weight: 1, Timed: true},
		"a:1|g|#b":                            {Kind: impl.Gauge, Series: "a{b}", Value: 1000000, Weight: 1},
		"a:1|g|T1000000000":                   {Kind: impl.Gauge, Series: "a{}", Value: 1000000, Weight: 1, Timed: true, Time: 1000000000},
		"users:u1|s":                          {Kind: impl.Set, Series: "users{}", Word: "u1", Weight: 1},
		"users:a:b:c|s|#:,-":                  {Kind: impl.Set, Series: "users{-,:}", Word: "a:b:c", Weight: 1},
		"users::|s|#b,a,b,a|T12":              {Kind: impl.Set, Series: "users{a,b}", Word: ":", Weight: 1, Timed: true, Time: 12},
		"a:" + strings.Repeat("w", 20) + "|s": {Kind: impl.Set, Series: "a{}", Word: strings.Repeat("w", 20), Weight: 1},
		"a:1|c|#" + strings.Repeat("t", 20):   {Kind: impl.Counter, Series: "a{" + strings.Repeat("t", 20) + "}", Value: 1000000, Weight: 1},
		"a:1|c|#7,6,5,4,3,2,1,0,7,7":          {Kind: impl.Counter, Series: "a{0,1,2,3,4,5,6,7}", Value: 1000000, Weight: 1},
		"a:1|c|@0.5|T5":                       {Kind: impl.Counter, Series: "a{}", Value: 1000000, Weight: 2, Timed: true, Time: 5},
	} {
		if got := impl.LineRead(line); got != (impl.SampleOut{Sample: want}) {
			t.Errorf("LineRead(%q): %+v, want %+v", line, got, want)
		}
		if got := plainLine(line); got != (impl.SampleOut{Sample: want}) {
			t.Errorf("by patterns %q is %+v, want %+v", line, got, want)
		}
	}
}

func TestLineReadNamesFaults(t *testing.T) {
	tooLong, tags := longSeries(101)
	for line, want := range map[string]int64{
		"":                                  impl.ErrSyntax,
		"a":                                 impl.ErrSyntax,
		"a:1":                               impl.ErrSyntax,
		"a|c":                               impl.ErrSyntax,
		"hits|c:1":                          impl.ErrSyntax,
		":1|c":                              impl.ErrSyntax,
		"A:1|c":                             impl.ErrSyntax,
		"1a:1|c":                            impl.ErrSyntax,
		"a b:1|c":                           impl.ErrSyntax,
		"a{}:1|c":                           impl.ErrSyntax,
		" a:1|c":                            impl.ErrSyntax,
		"a:1|c|":                            impl.ErrSyntax,
		"a:1|c||":                           impl.ErrSyntax,
		"a:1|c||T5":                         impl.ErrSyntax,
		"a:1|c|x":                           impl.ErrSyntax,
		"a:1|c|0.5":                         impl.ErrSyntax,
		"a:1|c|t5":                          impl.ErrSyntax,
		"a:1|c| @0.5":                       impl.ErrSyntax,
		"a:1|c|#a|@0.5":                     impl.ErrSyntax,
		"a:1|c|T5|@0.5":                     impl.ErrSyntax,
		"a:1|c|T5|#a":                       impl.ErrSyntax,
		"a:1|c|@0.5|T5|#a":                  impl.ErrSyntax,
		"a:1|c|@0.5|@0.5":                   impl.ErrSyntax,
		"a:1|c|#a|#a":                       impl.ErrSyntax,
		"a:1|c|T5|T5":                       impl.ErrSyntax,
		"a:1|c|T5|x":                        impl.ErrSyntax,
		"a:1|c|T5|":                         impl.ErrSyntax,
		"a:1|c|#":                           impl.ErrSyntax,
		"a:1|c|#,":                          impl.ErrSyntax,
		"a:1|c|#a,":                         impl.ErrSyntax,
		"a:1|c|#,a":                         impl.ErrSyntax,
		"a:1|c|#a,,b":                       impl.ErrSyntax,
		"a:1|c|#a, b":                       impl.ErrSyntax,
		"a:1|c|#A":                          impl.ErrSyntax,
		"a:1|c|#a#b":                        impl.ErrSyntax,
		"a:1|c|#a@0.5":                      impl.ErrSyntax,
		"a:1|c|#aT5":                        impl.ErrSyntax,
		"a:1|c|T":                           impl.ErrSyntax,
		"a:1|c|T-0":                         impl.ErrSyntax,
		"a:1|c|T-1":                         impl.ErrSyntax,
		"a:1|c|T+1":                         impl.ErrSyntax,
		"a:1|c|T1.0":                        impl.ErrSyntax,
		"a:1|c|T00":                         impl.ErrSyntax,
		"a:1|c|T05":                         impl.ErrSyntax,
		"a:1|c|T5 ":                         impl.ErrSyntax,
		"a:1|c|T1_0":                        impl.ErrSyntax,
		"a:1|c|T1000000001":                 impl.ErrSyntax,
		"a:1|c|T18446744073709551616":       impl.ErrSyntax,
		"a:1|c|T18446744073709551621":       impl.ErrSyntax,
		"a:1|c|T9223372036854775808":        impl.ErrSyntax,
		"a:1|c|#0,1,2,3,4,5,6,7,8":          impl.ErrSyntax,
		"a:1|c|#" + strings.Repeat("t", 21): impl.ErrSyntax,
		strings.Repeat("n", 41) + ":1|c":    impl.ErrSyntax,
		tooLong + ":1|c|#" + strings.Join(tags, ","): impl.ErrSyntax,

		"a:1|":             impl.ErrKind,
		"a:1|x":            impl.ErrKind,
		"a:1|C":            impl.ErrKind,
		"a:1|cc":           impl.ErrKind,
		"a:1|cg":           impl.ErrKind,
		"a:1|ghs":          impl.ErrKind,
		"a:1|c ":           impl.ErrKind,
		"a:1|c@0.5":        impl.ErrKind,
		"a:1||@0.5":        impl.ErrKind,
		"a:1|@0.5":         impl.ErrKind,
		"a:1|#a":           impl.ErrKind,
		"a:1|T5":           impl.ErrKind,
		"a:1|x|@0.5|#a|T5": impl.ErrKind,

		"a:|c":                                impl.ErrSyntax,
		"a:x|c":                               impl.ErrSyntax,
		"a:1:2|c":                             impl.ErrSyntax,
		"a: 1|c":                              impl.ErrSyntax,
		"a:+1|c":                              impl.ErrSyntax,
		"a:01|h":                              impl.ErrSyntax,
		"a:1.|g":                              impl.ErrSyntax,
		"a:1.1234567|g":                       impl.ErrSyntax,
		"a:1000000000000|g":                   impl.ErrSyntax,
		"a:|s":                                impl.ErrSyntax,
		"a:A|s":                               impl.ErrSyntax,
		"a:a,b|s":                             impl.ErrSyntax,
		"a:u1|c":                              impl.ErrSyntax,
		"a:" + strings.Repeat("w", 21) + "|s": impl.ErrSyntax,

		"a:1|c|@":          impl.ErrRate,
		"a:1|c|@x":         impl.ErrRate,
		"a:1|c|@0":         impl.ErrRate,
		"a:1|c|@-0":        impl.ErrRate,
		"a:1|c|@0.000000":  impl.ErrRate,
		"a:1|c|@-0.5":      impl.ErrRate,
		"a:1|c|@-1":        impl.ErrRate,
		"a:1|c|@1.000001":  impl.ErrRate,
		"a:1|c|@2":         impl.ErrRate,
		"a:1|c|@.5":        impl.ErrRate,
		"a:1|c|@0.0000001": impl.ErrRate,
		"a:1|c|@ 0.5":      impl.ErrRate,
		"a:1|c|@0.5#a":     impl.ErrRate,
		"a:1|c|@@0.5":      impl.ErrRate,
		"a:1|h|@0":         impl.ErrRate,
		"a:1|g|@1":         impl.ErrRate,
		"a:1|g|@0.5":       impl.ErrRate,
		"a:1|g|@":          impl.ErrRate,
		"a:u|s|@1":         impl.ErrRate,
		"a:u|s|@0.5|#a":    impl.ErrRate,
	} {
		if got := impl.LineRead(line); got != (impl.SampleOut{Code: want}) {
			t.Errorf("LineRead(%q): %+v, want the code %d alone", line, got, want)
		}
		if got := plainLine(line); got != (impl.SampleOut{Code: want}) {
			t.Errorf("by patterns %q is %+v, want the code %d", line, got, want)
		}
	}
}

// TestLineReadNamesTheFirstFault puts two faults, or more, into one line.
func TestLineReadNamesTheFirstFault(t *testing.T) {
	for line, want := range map[string]int64{
		"A:1|x":                    impl.ErrSyntax,
		"a|x":                      impl.ErrSyntax,
		"A:1|c|@2":                 impl.ErrSyntax,
		"a:1|x|y":                  impl.ErrSyntax,
		"a:1|x|":                   impl.ErrSyntax,
		"a:1|x|#A":                 impl.ErrSyntax,
		"a:1|x|T05":                impl.ErrSyntax,
		"a:1|x|T1000000001":        impl.ErrSyntax,
		"a:1|x|#a|@0.5":            impl.ErrSyntax,
		"a:1|x|#0,1,2,3,4,5,6,7,8": impl.ErrSyntax,
		"a:1|c|@2|T05":             impl.ErrSyntax,
		"a:1|c|@2|#A":              impl.ErrSyntax,
		"a:1|g|@0.5|x":             impl.ErrSyntax,
		"a:1|c|@2|@2":              impl.ErrSyntax,
		"a:y|x":                    impl.ErrKind,
		"a:|x":                     impl.ErrKind,
		"a:y|x|@2":                 impl.ErrKind,
		"a:1|x|@0":                 impl.ErrKind,
		"a:1||@":                   impl.ErrKind,
		"a:y|c|@2":                 impl.ErrSyntax,
		"a:|h|@":                   impl.ErrSyntax,
		"a:y|g|@0.5":               impl.ErrSyntax,
		"a:A|s|@0.5":               impl.ErrSyntax,
		"a:1|g|@2":                 impl.ErrRate,
		"a:u|s|@x":                 impl.ErrRate,
	} {
		if got := impl.LineRead(line); got != (impl.SampleOut{Code: want}) {
			t.Errorf("LineRead(%q): %+v, want the code %d alone", line, got, want)
		}
	}
}

func TestLinesOfMaxBytes(t *testing.T) {
	head, tail := "a:1|c|#b,ab", "|T5"
	most := head + strings.Repeat(",b", (impl.MaxBytes-len(head)-len(tail))/2) + tail
	if len(most) != impl.MaxBytes {
		t.Fatalf("a line of %d bytes", len(most))
	}
	want := impl.Sample{Kind: impl.Counter, Series: "a{ab,b}", Value: 1000000, Weight: 1, Timed: true, Time: 5}
	if got := impl.LineRead(most); got != (impl.SampleOut{Sample: want}) {
		t.Errorf("a line of MaxBytes: %+v, want %+v", got, want)
	}
	for _, line := range []string{most + "0", "A" + most, strings.Repeat("a", impl.MaxBytes+1), most + "|"} {
		if got := impl.LineRead(line); got != (impl.SampleOut{Code: impl.ErrSize}) {
			t.Errorf("a line of %d bytes: %+v, want ErrSize alone", len(line), got)
		}
	}
	unlike := "a:1|x|#" + strings.Join(numberedTags(3000, 5), ",")
	if got := impl.LineRead(unlike); got != (impl.SampleOut{Code: impl.ErrSyntax}) {
		t.Errorf("a line of 3000 tags: %+v, want ErrSyntax alone", got)
	}
}

// TestLinesAsByPatterns makes lines of pieces that are right or nearly so.
func TestLinesAsByPatterns(t *testing.T) {
	names := []string{"a", "hits", "hits", "a.b_1", "", "A", "1"}
	whats := []string{":1", ":2.50", ":-0.000001", ":u1", ":a:b", ":", "", ":x y"}
	kinds := []string{"|c", "|c", "|h", "|g", "|s", "|x", "|", "", "|ch"}
	rates := []string{"", "", "|@0.5", "|@1", "|@0.000003", "|@0", "|@2", "|@", "|@x"}
	tags := []string{"", "", "|#a", "|#b,a,b", "|#a:1", "|#", "|#A", "|#0,1,2,3,4,5,6,7", "|#0,1,2,3,4,5,6,7,8"}
	times := []string{"", "", "|T0", "|T7", "|T1000000000", "|T1000000001", "|T07", "|T"}
	codes := map[int64]int{}
	s := steps(7)
	pick := func(l []string) string { return l[s.next()%uint64(len(l))] }
	for range 200000 {
		line := pick(names) + pick(whats) + pick(kinds)
		behind := []string{pick(rates), pick(tags), pick(times)}
		if s.next()%4 == 0 {
			behind = shuffled(behind, s.next())
		}
		line += strings.Join(behind, "")
		if s.next()%8 == 0 {
			at := s.next() % uint64(len(line)+1)
			line = line[:at] + string("|:#@T,{ 0a"[s.next()%10]) + line[at:]
		}
		got, want := impl.LineRead(line), plainLine(line)
		if got != want {
			t.Fatalf("LineRead(%q): %+v, want %+v", line, got, want)
		}
		codes[got.Code]++
		if got.Code == impl.OK && !impl.SampleRight(got.Sample) {
			t.Fatalf("LineRead(%q): %+v is not right", line, got)
		}
	}
	for _, code := range []int64{impl.OK, impl.ErrSyntax, impl.ErrKind, impl.ErrRate} {
		if codes[code] < 1000 {
			t.Errorf("the code %d was told %d times only", code, codes[code])
		}
	}
}
