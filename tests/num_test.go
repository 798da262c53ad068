package tests

import (
	"math"
	"math/big"
	"strconv"
	"strings"
	"testing"

	"loop.example/g00309/impl"
)

const greatestWeight = math.MaxUint64

// steps gives numbers that are spread widely, and the same ones in every run.
type steps uint64

func (s *steps) next() uint64 {
	*s += 0x9e3779b97f4a7c15
	x := uint64(*s)
	x = (x ^ x>>30) * 0xbf58476d1ce4e5b9
	x = (x ^ x>>27) * 0x94d049bb133111eb
	return x ^ x>>31
}

func edgeValues() []int64 {
	return []int64{
		0, 1, -1, 9, 10, -10, 99999, 100000, 999999, -999999,
		1000000, -1000000, 1000001, -1000001, 1500000, 1050000, -100000,
		123456789012345678, 100000000000000000, 999999999999000000,
		impl.MaxValue - 1, impl.MaxValue, 1 - impl.MaxValue, -impl.MaxValue,
	}
}

func someValues() []int64 {
	l := edgeValues()
	s := steps(1)
	for range 3000 {
		v := int64(s.next() % (impl.MaxValue + 1))
		v >>= s.next() % 60
		if s.next()%2 == 0 {
			v = -v
		}
		l = append(l, v)
	}
	return l
}

// digitsOf tells a value's text by big numbers, apart from the program's way.
func digitsOf(v int64) string {
	t := new(big.Rat).SetFrac64(v, 1000000).FloatString(6)
	return strings.TrimSuffix(strings.TrimRight(t, "0"), ".")
}

func TestPromise1ValuesComeBack(t *testing.T) {
	for _, v := range someValues() {
		text := impl.ValueText(v)
		if text != digitsOf(v) {
			t.Fatalf("ValueText(%d): %q, want %q", v, text, digitsOf(v))
		}
		if got := impl.ValueRead(text); got != (impl.ValueOut{Value: v}) {
			t.Fatalf("ValueRead(%q): %+v, want the value %d", text, got, v)
		}
	}
}

func TestPromise1NoughtsAtTheEnd(t *testing.T) {
	for _, v := range someValues() {
		text := impl.ValueText(v)
		if !strings.Contains(text, ".") {
			text += "."
		}
		for places := len(text) - strings.Index(text, ".") - 1; places < 6; places++ {
			text += "0"
			if got := impl.ValueRead(text); got != (impl.ValueOut{Value: v}) {
				t.Fatalf("ValueRead(%q): %+v, want the value %d", text, got, v)
			}
		}
		if got := impl.ValueRead(text + "0"); got != (impl.ValueOut{Code: impl.ErrSyntax}) {
			t.Fatalf("ValueRead(%q): %+v, want ErrSyntax", text+"0", got)
		}
	}
}

func TestValueText(t *testing.T) {
	for v, want := range map[int64]string{
		0:                  "0",
		1:                  "0.000001",
		-1:                 "-0.000001",
		100000:             "0.1",
		-120000:            "-0.12",
		1000000:            "1",
		-1000000:           "-1",
		1500000:            "1.5",
		10000000:           "10",
		1000010:            "1.00001",
		999999999999000000: "999999999999",
		impl.MaxValue:      "999999999999.999999",
		-impl.MaxValue:     "-999999999999.999999",
	} {
		if got := impl.ValueText(v); got != want {
			t.Errorf("ValueText(%d): %q, want %q", v, got, want)
		}
	}
}

func TestValueTextOfNoValue(t *testing.T) {
	for _, v := range []int64{impl.MaxValue + 1, -impl.MaxValue - 1, math.MaxInt64, math.MinInt64} {
		if got := impl.ValueText(v); got != "" {
			t.Errorf("ValueText(%d): %q, want the empty text", v, got)
		}
	}
}

func TestValueRead(t *testing.T) {
	for text, want := range map[string]int64{
		"0":                    0,
		"-0":                   0,
		"0.0":                  0,
		"-0.0":                 0,
		"-0.000000":            0,
		"0.000001":             1,
		"-0.000001":            -1,
		"-0.50":                -500000,
		"1.5":                  1500000,
		"1.500000":             1500000,
		"10":                   10000000,
		"-7":                   -7000000,
		"100.001":              100001000,
		"100000000000":         100000000000000000,
		"999999999999":         999999999999000000,
		"999999999999.999999":  impl.MaxValue,
		"-999999999999.999999": -impl.MaxValue,
	} {
		if got := impl.ValueRead(text); got != (impl.ValueOut{Value: want}) {
			t.Errorf("ValueRead(%q): %+v, want the value %d", text, got, want)
		}
	}
}

func TestValueReadWrong(t *testing.T) {
	for _, text := range []string{
		"", "-", "--1", "+1", "-+1", "a", "1a", "a1", " 1", "1 ", "1\n", "\x001", "１",
		".", ".5", "-.5", "1.", "-1.", "0.", "-0.", "1..5", "1.5.", "1.-5", "1,5", "1.5a", "1.a",
		"00", "01", "-00", "-01", "00.5", "01.5", "000000000000", "0000000000001",
		"1.0000000", "0.0000000", "0.0000001", "-0.1234567", "1.1234560",
		"1000000000000", "-1000000000000", "1000000000000.5", "9223372036854775808",
		"99999999999999999999999999999999", "1e5", "0x1", "1_0",
		strings.Repeat("9", impl.MaxBytes), strings.Repeat("0", impl.MaxBytes),
		"0." + strings.Repeat("0", impl.MaxBytes-2),
	} {
		if got := impl.ValueRead(text); got != (impl.ValueOut{Code: impl.ErrSyntax}) {
			t.Errorf("ValueRead(%.50q) of %d bytes: %+v, want ErrSyntax", text, len(text), got)
		}
	}
}

func TestValueReadOfEachByte(t *testing.T) {
	for c := range 256 {
		text := string([]byte{byte(c)})
		want := impl.ValueOut{Code: impl.ErrSyntax}
		if c >= '0' && c <= '9' {
			want = impl.ValueOut{Value: int64(c-'0') * 1000000}
		}
		if got := impl.ValueRead(text); got != want {
			t.Errorf("ValueRead(%q): %+v, want %+v", text, got, want)
		}
	}
}

func TestReadsOfTooLongTexts(t *testing.T) {
	for _, c := range []string{"0", "1", "a", "-"} {
		text := strings.Repeat(c, impl.MaxBytes+1)
		if got := impl.ValueRead(text); got != (impl.ValueOut{Code: impl.ErrSize}) {
			t.Errorf("ValueRead of too many %q: %+v, want ErrSize", c, got)
		}
		if got := impl.WideRead(text); got != (impl.WideOut{Code: impl.ErrSize}) {
			t.Errorf("WideRead of too many %q: %+v, want ErrSize", c, got)
		}
		if impl.NameRight(text) {
			t.Errorf("NameRight of too many %q", c)
		}
	}
}

func edgeWides() []impl.Wide {
	var l []impl.Wide
	for _, high := range []int64{0, 1, -1, 9, 10, -10, math.MaxInt64, math.MaxInt64 - 1, math.MinInt64, math.MinInt64 + 1} {
		for _, low := range []uint64{0, 1, 9, 10, 1<<63 - 1, 1 << 63, greatestWeight - 1, greatestWeight} {
			l = append(l, impl.Wide{High: high, Low: low})
		}
	}
	return l
}

func someWides() []impl.Wide {
	l := edgeWides()
	s := steps(2)
	for range 3000 {
		size := s.next() % 64
		l = append(l, impl.Wide{High: int64(s.next()) >> size, Low: s.next()})
	}
	return l
}

func bigOf(a impl.Wide) *big.Int {
	n := new(big.Int).Lsh(big.NewInt(a.High), 64)
	return n.Add(n, new(big.Int).SetUint64(a.Low))
}

// wrapped brings a number, modulo 2^128, to -2^127 up to 2^127-1.
func wrapped(n *big.Int) *big.Int {
	half := new(big.Int).Lsh(big.NewInt(1), 127)
	all := new(big.Int).Lsh(big.NewInt(1), 128)
	n = new(big.Int).Add(n, half)
	n.Mod(n, all)
	return n.Sub(n, half)
}

func wantWide(t *testing.T, what string, got impl.Wide, want *big.Int) {
	t.Helper()
	if bigOf(got).Cmp(wrapped(want)) != 0 {
		t.Fatalf("%s: got %s, want %s", what, bigOf(got), wrapped(want))
	}
}

func TestPromise2WidesComeBack(t *testing.T) {
	for _, a := range someWides() {
		text := impl.WideText(a)
		if text != bigOf(a).String() {
			t.Fatalf("WideText(%+v): %q, want %q", a, text, bigOf(a))
		}
		if got := impl.WideRead(text); got != (impl.WideOut{Wide: a}) {
			t.Fatalf("WideRead(%q): %+v, want %+v", text, got, a)
		}
	}
}

func TestPromise2WidesAddedInAnyOrder(t *testing.T) {
	edges := edgeWides()
	for _, a := range edges {
		for _, b := range edges {
			sum := impl.WideAdd(a, b)
			wantWide(t, "WideAdd", sum, new(big.Int).Add(bigOf(a), bigOf(b)))
			if sum != impl.WideAdd(b, a) {
				t.Fatalf("WideAdd of %+v and %+v hangs on their order", a, b)
			}
			for _, c := range edges {
				if impl.WideAdd(sum, c) != impl.WideAdd(a, impl.WideAdd(b, c)) {
					t.Fatalf("WideAdd of %+v, %+v and %+v hangs on their order", a, b, c)
				}
			}
		}
	}
}

func TestPromise2SumsOfMany(t *testing.T) {
	l := someWides()
	var up, down impl.Wide
	want := new(big.Int)
	for i := range l {
		up = impl.WideAdd(up, l[i])
		down = impl.WideAdd(l[len(l)-1-i], down)
		want.Add(want, bigOf(l[i]))
	}
	wantWide(t, "first to last", up, want)
	wantWide(t, "last to first", down, want)
}

func TestWideAddWraps(t *testing.T) {
	least := impl.Wide{High: math.MinInt64}
	greatest := impl.Wide{High: math.MaxInt64, Low: greatestWeight}
	if got := impl.WideAdd(greatest, impl.WideOf(1)); got != least {
		t.Errorf("2^127-1 and 1: %+v", got)
	}
	if got := impl.WideAdd(least, impl.WideOf(-1)); got != greatest {
		t.Errorf("-2^127 and -1: %+v", got)
	}
	if got := impl.WideAdd(least, least); got != (impl.Wide{}) {
		t.Errorf("-2^127 twice: %+v", got)
	}
	if got := impl.WideAdd(greatest, greatest); got != impl.WideOf(-2) {
		t.Errorf("2^127-1 twice: %+v", got)
	}
}

func edgeNumbers() []int64 {
	return append(edgeValues(), math.MaxInt64, math.MaxInt64-1, math.MinInt64, math.MinInt64+1, 1<<32, -1<<32)
}

func TestWideOf(t *testing.T) {
	for _, n := range edgeNumbers() {
		wantWide(t, "WideOf", impl.WideOf(n), big.NewInt(n))
	}
}

func TestWideTimes(t *testing.T) {
	weights := []uint64{0, 1, 2, 1000000, 1<<32 - 1, 1 << 32, 1<<63 - 1, 1 << 63, greatestWeight - 1, greatestWeight}
	s := steps(3)
	for range 100 {
		weights = append(weights, s.next()>>(s.next()%64))
	}
	numbers := edgeNumbers()
	for range 100 {
		numbers = append(numbers, int64(s.next())>>(s.next()%64))
	}
	for _, n := range numbers {
		for _, w := range weights {
			want := new(big.Int).Mul(big.NewInt(n), new(big.Int).SetUint64(w))
			wantWide(t, "WideTimes", impl.WideTimes(n, w), want)
		}
	}
}

func TestSumsOfProductsWrap(t *testing.T) {
	once := impl.WideTimes(math.MinInt64, greatestWeight)
	want := new(big.Int).Mul(big.NewInt(math.MinInt64), new(big.Int).SetUint64(greatestWeight))
	twice := impl.WideAdd(once, once)
	wantWide(t, "twice", twice, new(big.Int).Add(want, want))
	if text := impl.WideText(twice); text != "18446744073709551616" {
		t.Errorf("-2^63 times 2^64-1, twice: %s", text)
	}
}

func TestWideText(t *testing.T) {
	for _, c := range []struct {
		wide impl.Wide
		want string
	}{
		{impl.Wide{}, "0"},
		{impl.Wide{Low: 10}, "10"},
		{impl.Wide{High: -1, Low: greatestWeight}, "-1"},
		{impl.Wide{Low: greatestWeight}, "18446744073709551615"},
		{impl.Wide{High: 1}, "18446744073709551616"},
		{impl.Wide{High: -1}, "-18446744073709551616"},
		{impl.Wide{High: math.MaxInt64, Low: greatestWeight}, "170141183460469231731687303715884105727"},
		{impl.Wide{High: math.MinInt64}, "-170141183460469231731687303715884105728"},
	} {
		if got := impl.WideText(c.wide); got != c.want {
			t.Errorf("WideText(%+v): %q, want %q", c.wide, got, c.want)
		}
		if got := impl.WideRead(c.want); got != (impl.WideOut{Wide: c.wide}) {
			t.Errorf("WideRead(%q): %+v, want %+v", c.want, got, c.wide)
		}
	}
}

func TestWideReadWrong(t *testing.T) {
	for _, text := range []string{
		"", "-", "-0", "--1", "+1", "00", "01", "-01", "1.0", "1.", "a", "1a", "-a", " 1", "1 ", "1\n", "1-", "/", ":", "1:", "0x1", "1_0",
		"170141183460469231731687303715884105728",
		"-170141183460469231731687303715884105729",
		"340282366920938463463374607431768211455",
		"340282366920938463463374607431768211456",
		"-340282366920938463463374607431768211456",
		"340282366920938463463374607431768211457",
		"0170141183460469231731687303715884105727",
		"1701411834604692317316873037158841057270",
		strings.Repeat("1", impl.MaxBytes), strings.Repeat("0", impl.MaxBytes), strings.Repeat("-", impl.MaxBytes),
	} {
		if got := impl.WideRead(text); got != (impl.WideOut{Code: impl.ErrSyntax}) {
			t.Errorf("WideRead(%.50q) of %d bytes: %+v, want ErrSyntax", text, len(text), got)
		}
	}
}

func TestWideReadOfEachByte(t *testing.T) {
	for c := range 256 {
		for _, text := range []string{string([]byte{byte(c)}), string([]byte{'1', byte(c)})} {
			want := impl.WideOut{Code: impl.ErrSyntax}
			if c >= '0' && c <= '9' {
				n, _ := strconv.ParseInt(text, 10, 64)
				want = impl.WideOut{Wide: impl.WideOf(n)}
			}
			if got := impl.WideRead(text); got != want {
				t.Errorf("WideRead(%q): %+v, want %+v", text, got, want)
			}
		}
	}
}

func TestWeightAdd(t *testing.T) {
	for _, c := range []struct{ a, b, want uint64 }{
		{0, 0, 0},
		{1, 2, 3},
		{0, greatestWeight, greatestWeight},
		{1, greatestWeight - 1, greatestWeight},
		{1, greatestWeight, greatestWeight},
		{1 << 63, 1<<63 - 1, greatestWeight},
		{1 << 63, 1 << 63, greatestWeight},
		{greatestWeight, greatestWeight, greatestWeight},
	} {
		if got := impl.WeightAdd(c.a, c.b); got != c.want {
			t.Errorf("WeightAdd(%d, %d): %d, want %d", c.a, c.b, got, c.want)
		}
		if got := impl.WeightAdd(c.b, c.a); got != c.want {
			t.Errorf("WeightAdd(%d, %d): %d, want %d", c.b, c.a, got, c.want)
		}
	}
}

func TestNameRight(t *testing.T) {
	for _, name := range []string{"a", "z", "a0", "z9", "a_", "a.", "a.b_9", "a" + strings.Repeat("_", 39), strings.Repeat("z", 40)} {
		if !impl.NameRight(name) {
			t.Errorf("NameRight(%q) is false", name)
		}
	}
	for _, name := range []string{"", "0a", "9", "_a", ".a", "A", "aB", "a-b", "a:b", "a b", " a", "a\n", "a\x00", "é", "aé", "a#0", strings.Repeat("a", 41)} {
		if impl.NameRight(name) {
			t.Errorf("NameRight(%q) is true", name)
		}
	}
}

func TestNameRightOfEachByte(t *testing.T) {
	for c := range 256 {
		first := c >= 'a' && c <= 'z'
		later := first || c >= '0' && c <= '9' || c == '_' || c == '.'
		if got := impl.NameRight(string([]byte{byte(c)})); got != first {
			t.Errorf("NameRight of the byte %d alone: %v", c, got)
		}
		if got := impl.NameRight(string([]byte{'a', byte(c)})); got != later {
			t.Errorf("NameRight of a and the byte %d: %v", c, got)
		}
	}
}
