package tests

import (
	"fmt"
	"maps"
	"math"
	"slices"
	"strings"
	"testing"

	"loop.example/g00309/impl"
)

const (
	greatestTotal = 1000000000000000
	greatestPut   = 1000000
)

// came is a key that came with a weight.
type came struct {
	key    string
	weight int64
}

func sameTop(a impl.Top, b impl.Top) bool {
	return a.Debt == b.Debt && a.Total == b.Total && slices.Equal(a.Items, b.Items)
}

func cloneTop(t impl.Top) impl.Top {
	return impl.Top{Items: slices.Clone(t.Items), Debt: t.Debt, Total: t.Total}
}

// countsOf are the Counts by key, so that what is worked out from them has no order.
func countsOf(t impl.Top) map[string]int64 {
	counts := map[string]int64{}
	for _, item := range t.Items {
		counts[item.Key] += item.Count
	}
	return counts
}

func topOf(counts map[string]int64, debt int64, total int64) impl.Top {
	out := impl.Top{Debt: debt, Total: total}
	for _, key := range slices.Sorted(maps.Keys(counts)) {
		out.Items = append(out.Items, impl.Heavy{Key: key, Count: counts[key]})
	}
	return out
}

// plainTopPut follows the words for a key that is put, one by one.
func plainTopPut(t impl.Top, key string, weight int64) impl.Top {
	counts := countsOf(t)
	total := t.Total + weight
	if counts[key] > 0 || len(counts) < impl.MaxTop {
		counts[key] += weight
		return topOf(counts, t.Debt, total)
	}
	d := weight
	for _, count := range counts {
		d = min(d, count)
	}
	for there := range counts {
		counts[there] -= d
	}
	counts[key] = weight - d
	maps.DeleteFunc(counts, func(_ string, count int64) bool { return count == 0 })
	return topOf(counts, t.Debt+d, total)
}

// plainTopMerge follows the words for two that are brought together.
func plainTopMerge(a impl.Top, b impl.Top) impl.Top {
	counts := countsOf(a)
	for _, item := range b.Items {
		counts[item.Key] += item.Count
	}
	var d int64
	if len(counts) > impl.MaxTop {
		falling := slices.Sorted(maps.Values(counts))
		slices.Reverse(falling)
		d = falling[impl.MaxTop]
	}
	for key := range counts {
		counts[key] -= d
	}
	maps.DeleteFunc(counts, func(_ string, count int64) bool { return count <= 0 })
	return topOf(counts, a.Debt+b.Debt+d, a.Total+b.Total)
}

func putCame(t impl.Top, l []came) impl.Top {
	for _, c := range l {
		t = impl.TopPut(t, c.key, c.weight)
	}
	return t
}

// heavyItems have the keys a, b, c .., in this order.
func heavyItems(counts ...int64) []impl.Heavy {
	var l []impl.Heavy
	for i, count := range counts {
		l = append(l, impl.Heavy{Key: string(rune('a' + i)), Count: count})
	}
	return l
}

func keysFrom(first byte, counts ...int64) []impl.Heavy {
	l := heavyItems(counts...)
	for i := range l {
		l[i].Key = string(rune(int(first) + i))
	}
	return l
}

// barely is a Top whose Total is just what the Items and the Debt ask for.
func barely(items []impl.Heavy, debt int64) impl.Top {
	total := (impl.MaxTop + 1) * debt
	for _, item := range items {
		total += item.Count
	}
	return impl.Top{Items: items, Debt: debt, Total: total}
}

func rightTops() []impl.Top {
	long := strings.Repeat("k", 100)
	return []impl.Top{
		{},
		{Items: []impl.Heavy{}},
		{Total: 1},
		{Total: greatestTotal},
		{Debt: 1, Total: 6},
		{Debt: greatestTotal / 6, Total: greatestTotal},
		barely(heavyItems(1), 0),
		barely(heavyItems(1, 1, 1, 1), 0),
		barely(heavyItems(1, 1, 1, 1, 1), 0),
		barely(heavyItems(3, 1, 4, 1, 5), 9),
		barely(heavyItems(7, 7, 7, 7, 7), 2),
		barely(keysFrom('d', 3, 8, 2, 9, 1), 1),
		barely(keysFrom('m', 6, 6, 2, 2, 2), 3),
		barely(keysFrom('x', 1000000, 2, 3), 0),
		{Items: heavyItems(5, 2), Debt: 1, Total: 1000},
		{Items: heavyItems(greatestTotal), Total: greatestTotal},
		barely(heavyItems(greatestTotal-10, 4), 1),
		barely([]impl.Heavy{{Key: long[1:], Count: 4}, {Key: long, Count: 2}}, 0),
		barely([]impl.Heavy{{Key: "\x00", Count: 1}, {Key: "\n", Count: 1}, {Key: " ", Count: 1}, {Key: "\xff", Count: 1}}, 0),
		barely([]impl.Heavy{{Key: "B", Count: 1}, {Key: "a", Count: 1}, {Key: "a.", Count: 1}, {Key: "aa", Count: 1}, {Key: "é", Count: 1}}, 0),
	}
}

func wrongTops() map[string]impl.Top {
	withKeys := func(keys ...string) impl.Top {
		var items []impl.Heavy
		for _, key := range keys {
			items = append(items, impl.Heavy{Key: key, Count: 1})
		}
		return impl.Top{Items: items, Total: 1000}
	}
	long := strings.Repeat("k", impl.MaxBytes+1)
	// 6 times this wraps round to 2.
	var wrapping int64 = 3074457345618258603
	return map[string]impl.Top{
		"falling keys":                withKeys("b", "a"),
		"falling at the end":          withKeys("a", "c", "b"),
		"falling at the start":        withKeys("b", "a", "c"),
		"a key ahead of its start":    withKeys("aa", "a"),
		"a key twice":                 withKeys("a", "a"),
		"a key twice at the end":      withKeys("a", "b", "c", "c"),
		"six keys":                    withKeys("a", "b", "c", "d", "e", "f"),
		"500 keys":                    withKeys(slices.Repeat([]string{"a"}, 500)...),
		"an empty key":                withKeys(""),
		"an empty key first":          withKeys("", "a"),
		"a key of 101 bytes":          withKeys(long[:101]),
		"a key of 101 bytes last":     withKeys("a", long[:101]),
		"a key of 51 runes":           withKeys(strings.Repeat("é", 51)),
		"a key above MaxBytes":        withKeys(long),
		"a Count of 0":                {Items: heavyItems(0), Total: 9},
		"a Count of 0 at the end":     {Items: heavyItems(1, 2, 0), Total: 9},
		"a Count below 0":             {Items: heavyItems(-1), Total: 9},
		"a Count below 0 among them":  {Items: heavyItems(5, -1, 5), Total: 9},
		"a Count far below 0":         {Items: heavyItems(1, math.MinInt64), Total: 9},
		"Counts that wrap round":      {Items: heavyItems(1<<62, 1<<62, 1<<62, 1<<62, 3), Total: 9},
		"two Counts that wrap round":  {Items: heavyItems(math.MaxInt64, math.MaxInt64), Total: 9},
		"the greatest Count":          {Items: heavyItems(math.MaxInt64), Total: greatestTotal},
		"a Debt below 0":              {Debt: -1},
		"a Debt below 0 and a Total":  {Items: heavyItems(7), Debt: -1, Total: 9},
		"a Debt far below 0":          {Debt: math.MinInt64, Total: 9},
		"a Debt that wraps round":     {Debt: wrapping, Total: 9},
		"a Debt and a Count wrapping": {Items: heavyItems(1), Debt: wrapping - 1, Total: 9},
		"the greatest Debt":           {Debt: math.MaxInt64, Total: greatestTotal},
		"a Total below 0":             {Total: -1},
		"a Total far below 0":         {Total: math.MinInt64},
		"a Count above Total":         {Items: heavyItems(5), Total: 4},
		"Counts above Total":          {Items: heavyItems(5, 3, 2), Total: 9},
		"five times Debt as Total":    {Debt: 1, Total: 5},
		"Counts and Debt above Total": {Items: heavyItems(1, 2, 3), Debt: 4, Total: 29},
		"the bound and one more":      {Items: heavyItems(1), Debt: greatestTotal / 6, Total: greatestTotal - 4},
		"a Total above its bound":     {Total: greatestTotal + 1},
		"Items of a Total above it":   {Items: heavyItems(1), Total: greatestTotal + 1},
		"the greatest Total":          {Total: math.MaxInt64},
	}
}

func TestTopRight(t *testing.T) {
	for i, right := range rightTops() {
		if !impl.TopRight(right) {
			t.Errorf("top %d is right: %+v", i, right)
		}
	}
}

func TestWrongTops(t *testing.T) {
	for what, wrong := range wrongTops() {
		if impl.TopRight(wrong) {
			t.Errorf("%s: right", what)
		}
		for _, key := range []string{"a", "b", "zz", ""} {
			if got := impl.TopPut(wrong, key, 1); !sameTop(got, wrong) {
				t.Errorf("%s: TopPut of %q: %+v", what, key, got)
			}
			if got := impl.TopCount(wrong, key); got != 0 {
				t.Errorf("%s: TopCount of %q: %d", what, key, got)
			}
		}
		for _, right := range rightTops() {
			if got := impl.TopMerge(wrong, right); !sameTop(got, impl.Top{}) {
				t.Errorf("%s: TopMerge with a right one: %+v", what, got)
			}
			if got := impl.TopMerge(right, wrong); !sameTop(got, impl.Top{}) {
				t.Errorf("%s: TopMerge of a right one with it: %+v", what, got)
			}
		}
	}
}

func TestTopPutOfWrongKeysAndWeights(t *testing.T) {
	long := strings.Repeat("a", impl.MaxBytes+1)
	keys := []string{"", long[:101], long[:impl.MaxBytes], long, strings.Repeat("é", 51)}
	weights := []int64{0, -1, -greatestPut, math.MinInt64, greatestPut + 1, math.MaxInt64}
	for i, top := range rightTops() {
		for _, key := range keys {
			if got := impl.TopPut(top, key, 1); !sameTop(got, top) {
				t.Errorf("top %d, a key of %d bytes: %+v", i, len(key), got)
			}
		}
		for _, weight := range weights {
			for _, key := range []string{"a", "new"} {
				if got := impl.TopPut(top, key, weight); !sameTop(got, top) {
					t.Errorf("top %d, %q with the weight %d: %+v", i, key, weight, got)
				}
			}
		}
	}
}

func TestTopPut(t *testing.T) {
	full := barely(heavyItems(4, 2, 9, 2, 3), 1)
	for _, c := range []struct {
		what string
		from impl.Top
		came came
		want impl.Top
	}{
		{"the first key", impl.Top{}, came{"k", 3}, impl.Top{Items: []impl.Heavy{{Key: "k", Count: 3}}, Total: 3}},
		{"a key that is there", full, came{"b", 5}, impl.Top{Items: heavyItems(4, 7, 9, 2, 3), Debt: 1, Total: 31}},
		{"the first that is there", full, came{"a", 1}, impl.Top{Items: heavyItems(5, 2, 9, 2, 3), Debt: 1, Total: 27}},
		{"the last that is there", full, came{"e", 1}, impl.Top{Items: heavyItems(4, 2, 9, 2, 4), Debt: 1, Total: 27}},
		{"the fifth key", barely(heavyItems(1, 1, 1, 1), 0), came{"e", 1}, barely(heavyItems(1, 1, 1, 1, 1), 0)},
		{"the fifth key, ahead of all", barely(keysFrom('b', 1, 1, 1, 1), 0), came{"a", 8}, barely(heavyItems(8, 1, 1, 1, 1), 0)},
		{"a weight that is the least", full, came{"f", 1}, impl.Top{Items: heavyItems(3, 1, 8, 1, 2), Debt: 2, Total: 27}},
		{"a weight like the least Count", full, came{"f", 2},
			impl.Top{Items: []impl.Heavy{{Key: "a", Count: 2}, {Key: "c", Count: 7}, {Key: "e", Count: 1}}, Debt: 3, Total: 28}},
		{"a weight like another Count", full, came{"f", 4},
			impl.Top{Items: []impl.Heavy{{Key: "a", Count: 2}, {Key: "c", Count: 7}, {Key: "e", Count: 1}, {Key: "f", Count: 2}}, Debt: 3, Total: 30}},
		{"a weight that is not the least", full, came{"B", 10},
			impl.Top{Items: []impl.Heavy{{Key: "B", Count: 8}, {Key: "a", Count: 2}, {Key: "c", Count: 7}, {Key: "e", Count: 1}}, Debt: 3, Total: 36}},
		{"all alike", barely(heavyItems(7, 7, 7, 7, 7), 0), came{"f", 7}, impl.Top{Debt: 7, Total: 42}},
		{"all Counts alike", barely(heavyItems(7, 7, 7, 7, 7), 0), came{"c.", 9},
			impl.Top{Items: []impl.Heavy{{Key: "c.", Count: 2}}, Debt: 7, Total: 44}},
		{"the greatest weight", barely(heavyItems(1, 1, 1, 1, 2), 0), came{"f", greatestPut},
			impl.Top{Items: []impl.Heavy{{Key: "e", Count: 1}, {Key: "f", Count: greatestPut - 1}}, Debt: 1, Total: greatestPut + 6}},
	} {
		got := impl.TopPut(c.from, c.came.key, c.came.weight)
		if !sameTop(got, c.want) || !impl.TopRight(got) {
			t.Errorf("%s: %+v, want %+v", c.what, got, c.want)
		}
	}
}

func TestTopPutOfTheEdgesOfKeysAndWeights(t *testing.T) {
	long := strings.Repeat("k", 100)
	for _, key := range []string{"k", "\x00", " ", long, strings.Repeat("é", 50)} {
		for _, weight := range []int64{1, 2, greatestPut - 1, greatestPut} {
			once := impl.TopPut(impl.Top{}, key, weight)
			if want := (impl.Top{Items: []impl.Heavy{{Key: key, Count: weight}}, Total: weight}); !sameTop(once, want) {
				t.Errorf("%q, %d: %+v", key, weight, once)
			}
			if got := impl.TopCount(impl.TopPut(once, key, greatestPut), key); got != weight+greatestPut {
				t.Errorf("%q, %d, and again: %d", key, weight, got)
			}
		}
	}
}

func TestTopPutAtTheBoundOfTotal(t *testing.T) {
	for _, weight := range []int64{1, 7, greatestPut} {
		for _, key := range []string{"a", "new"} {
			below := impl.Top{Items: heavyItems(9, 8, 7, 6, 5), Total: greatestTotal - weight}
			at := impl.TopPut(below, key, weight)
			if want := plainTopPut(below, key, weight); !sameTop(at, want) || at.Total != greatestTotal || !impl.TopRight(at) {
				t.Errorf("%q with %d up to the bound: %+v, want %+v", key, weight, at, want)
			}
			beyond := below
			beyond.Total++
			if got := impl.TopPut(beyond, key, weight); !sameTop(got, beyond) {
				t.Errorf("%q with %d beyond the bound: %+v", key, weight, got)
			}
		}
	}
}

func TestTopMerge(t *testing.T) {
	for _, c := range []struct {
		what string
		a, b impl.Top
		want impl.Top
	}{
		{"nothing and nothing", impl.Top{}, impl.Top{}, impl.Top{}},
		{"debts alone", impl.Top{Debt: 2, Total: 12}, impl.Top{Debt: 3, Total: 20}, impl.Top{Debt: 5, Total: 32}},
		{"like keys", barely(heavyItems(1, 2, 3, 4, 5), 1), barely(heavyItems(9, 8, 7, 6, 5), 2), barely(heavyItems(10, 10, 10, 10, 10), 3)},
		{"five unlike keys", barely(heavyItems(5, 1), 0), barely(keysFrom('c', 2, 3, 4), 0), barely(heavyItems(5, 1, 2, 3, 4), 0)},
		{"six unlike keys", barely(heavyItems(5, 6, 7), 0), barely(keysFrom('d', 4, 8, 9), 0),
			impl.Top{Items: []impl.Heavy{{Key: "a", Count: 1}, {Key: "b", Count: 2}, {Key: "c", Count: 3}, {Key: "e", Count: 4}, {Key: "f", Count: 5}}, Debt: 4, Total: 39}},
		{"ten unlike keys", barely(heavyItems(10, 9, 8, 7, 6), 0), barely(keysFrom('f', 5, 4, 3, 2, 1), 0),
			impl.Top{Items: heavyItems(5, 4, 3, 2, 1), Debt: 5, Total: 55}},
		{"ten unlike keys, mixed", barely(heavyItems(1, 9, 3, 7, 5), 1), barely(keysFrom('f', 10, 2, 8, 4, 6), 2),
			impl.Top{Items: []impl.Heavy{{Key: "b", Count: 4}, {Key: "d", Count: 2}, {Key: "f", Count: 5}, {Key: "h", Count: 3}, {Key: "j", Count: 1}}, Debt: 8, Total: 73}},
		{"alike at the place and ahead", barely(heavyItems(9, 4, 4, 4, 4), 0), barely(keysFrom('f', 4, 1), 0),
			impl.Top{Items: heavyItems(5), Debt: 4, Total: 30}},
		{"alike at the place and behind", barely(heavyItems(9, 8, 7, 6, 5), 0), barely(keysFrom('f', 4, 4, 4), 0),
			impl.Top{Items: heavyItems(5, 4, 3, 2, 1), Debt: 4, Total: 47}},
		{"all alike", barely(heavyItems(3, 3, 3, 3, 3), 0), barely(keysFrom('f', 3), 0), impl.Top{Debt: 3, Total: 18}},
		{"added Counts in order", barely(heavyItems(2, 3, 3, 3, 3), 0), barely([]impl.Heavy{{Key: "a", Count: 9}, {Key: "z", Count: 2}}, 0),
			impl.Top{Items: heavyItems(9, 1, 1, 1, 1), Debt: 2, Total: 25}},
	} {
		if got := impl.TopMerge(c.a, c.b); !sameTop(got, c.want) || !impl.TopRight(got) {
			t.Errorf("%s: %+v, want %+v", c.what, got, c.want)
		}
		if got := impl.TopMerge(c.b, c.a); !sameTop(got, c.want) {
			t.Errorf("%s, the other way round: %+v, want %+v", c.what, got, c.want)
		}
	}
}

func TestTopMergeAtTheBoundOfTotal(t *testing.T) {
	for _, part := range []int64{0, 20, greatestTotal / 2, greatestTotal - 20, greatestTotal} {
		a, b := impl.Top{Total: part}, impl.Top{Total: greatestTotal - part}
		if part == greatestTotal/2 {
			a.Items, b.Items = heavyItems(1, 2, 3), keysFrom('d', 4, 5, 6)
		}
		at := impl.TopMerge(a, b)
		if want := plainTopMerge(a, b); !sameTop(at, want) || at.Total != greatestTotal || !impl.TopRight(at) {
			t.Errorf("%d and the rest: %+v, want %+v", part, at, want)
		}
		if part == greatestTotal {
			continue
		}
		a.Total++
		if got := impl.TopMerge(a, b); !sameTop(got, impl.Top{}) {
			t.Errorf("%d and the rest, beyond the bound: %+v", part, got)
		}
		if got := impl.TopMerge(b, a); !sameTop(got, impl.Top{}) {
			t.Errorf("the rest and %d, beyond the bound: %+v", part, got)
		}
	}
	full := impl.Top{Items: heavyItems(1), Total: greatestTotal}
	if got := impl.TopMerge(full, full); !sameTop(got, impl.Top{}) {
		t.Errorf("two at the bound: %+v", got)
	}
}

func TestTopMergeOfAnyRightTops(t *testing.T) {
	l := rightTops()
	for _, a := range l {
		for _, b := range l {
			want := impl.Top{}
			if a.Total+b.Total <= greatestTotal {
				want = plainTopMerge(a, b)
			}
			if got := impl.TopMerge(a, b); !sameTop(got, want) || !impl.TopRight(got) {
				t.Fatalf("%+v and %+v: %+v, want %+v", a, b, got, want)
			}
		}
	}
}

func TestTopCount(t *testing.T) {
	for i, top := range rightTops() {
		for _, item := range top.Items {
			if got := impl.TopCount(top, item.Key); got != item.Count {
				t.Errorf("top %d, %q: %d, want %d", i, item.Key, got, item.Count)
			}
		}
		for _, key := range []string{"", "none", "A", "a\x00", "zz", strings.Repeat("k", 98), strings.Repeat("k", 101), strings.Repeat("a", impl.MaxBytes+1)} {
			if got := impl.TopCount(top, key); got != 0 {
				t.Errorf("top %d, a key of %d bytes that is not there: %d", i, len(key), got)
			}
		}
	}
}

// someCame has keys of which the first come more often than the last.
func someCame(seed uint64, keys int, many int) []came {
	s := steps(seed)
	var l []came
	for range many {
		at := min(s.next()%uint64(keys), s.next()%uint64(keys))
		weight := int64(s.next()>>4%20) + 1
		switch s.next() >> 4 % 40 {
		case 0:
			weight = greatestPut
		case 1:
			weight = int64(s.next()%greatestPut) + 1
		}
		l = append(l, came{fmt.Sprintf("k%d", at), weight})
	}
	return l
}

func cameLists() [][]came {
	l := [][]came{nil, {{"one", 1}}}
	for seed, keys := range []int{1, 2, 4, impl.MaxTop, impl.MaxTop + 1, 7, 10, 30} {
		for _, many := range []int{5, 6, 7, 40, 200} {
			l = append(l, someCame(uint64(seed*1000+many), keys, many))
		}
	}
	var alike []came
	for i := range 60 {
		alike = append(alike, came{fmt.Sprintf("k%d", i%(impl.MaxTop+1)), 3})
	}
	return append(l, alike)
}

// checkTop holds a Top against all that came to it.
func checkTop(t *testing.T, what string, top impl.Top, l []came) {
	t.Helper()
	weights := map[string]int64{"never": 0}
	var all int64
	for _, c := range l {
		weights[c.key] += c.weight
		all += c.weight
	}
	if !impl.TopRight(top) || top.Total != all {
		t.Fatalf("%s: not right, or not of %d in all: %+v", what, all, top)
	}
	if top.Debt < 0 || 6*top.Debt > all {
		t.Fatalf("%s: a Debt of %d, of %d in all", what, top.Debt, all)
	}
	for key, weight := range weights {
		count := impl.TopCount(top, key)
		if count > weight || count+top.Debt < weight {
			t.Fatalf("%s: %s came with %d: Count %d, Debt %d", what, key, weight, count, top.Debt)
		}
	}
	for _, item := range top.Items {
		if weights[item.Key] == 0 {
			t.Fatalf("%s: %s never came", what, item.Key)
		}
	}
	if len(weights) <= impl.MaxTop+1 && top.Debt != 0 {
		t.Fatalf("%s: a Debt of %d with %d keys", what, top.Debt, len(weights)-1)
	}
}

func TestPromise9PutInAnyOrder(t *testing.T) {
	for i, l := range cameLists() {
		for seed := range uint64(6) {
			order := shuffled(l, seed)
			var top, want impl.Top
			for at, c := range order {
				top, want = impl.TopPut(top, c.key, c.weight), plainTopPut(want, c.key, c.weight)
				if !sameTop(top, want) {
					t.Fatalf("list %d, order %d, put %d: %+v, want %+v", i, seed, at, top, want)
				}
			}
			checkTop(t, fmt.Sprintf("list %d, order %d", i, seed), top, l)
		}
	}
}

// mergedCame parts a list anywhere, and holds what comes of its parts against the words of the document.
func mergedCame(t *testing.T, l []came, s *steps) impl.Top {
	if len(l) < 2 || s.next()>>4%6 == 0 {
		return putCame(impl.Top{}, l)
	}
	at := int(s.next() >> 4 % uint64(len(l)+1))
	a, b := mergedCame(t, l[:at], s), mergedCame(t, l[at:], s)
	both := impl.TopMerge(a, b)
	if !sameTop(both, impl.TopMerge(b, a)) {
		t.Fatalf("either way round: %+v, %+v", a, b)
	}
	if want := plainTopMerge(a, b); !sameTop(both, want) {
		t.Fatalf("%+v and %+v: %+v, want %+v", a, b, both, want)
	}
	checkTop(t, "parts", both, l)
	return both
}

func TestPromise9BroughtTogether(t *testing.T) {
	for i, l := range cameLists() {
		for seed := range uint64(8) {
			s := steps(seed + 100)
			checkTop(t, fmt.Sprintf("list %d, parts %d", i, seed), mergedCame(t, shuffled(l, seed), &s), l)
		}
	}
}

func TestPromise9LikeKeysAndNoneAlike(t *testing.T) {
	for seed := range uint64(30) {
		a, like := someCame(seed, 9, 60), someCame(seed+500, 9, 60)
		var unlike []came
		for _, c := range like {
			unlike = append(unlike, came{"other." + c.key, c.weight})
		}
		for what, b := range map[string][]came{"like": like, "unlike": unlike} {
			both := impl.TopMerge(putCame(impl.Top{}, a), putCame(impl.Top{}, b))
			checkTop(t, what, both, slices.Concat(a, b))
			checkTop(t, what+", put on", putCame(both, a), slices.Concat(a, b, a))
		}
	}
}

func TestPromise9ASixthIsReached(t *testing.T) {
	var l []came
	for i := range 6 {
		l = append(l, came{string(rune('a' + i)), greatestPut})
	}
	top := putCame(impl.Top{}, l)
	if want := (impl.Top{Debt: greatestPut, Total: 6 * greatestPut}); !sameTop(top, want) {
		t.Errorf("six alike: %+v, want %+v", top, want)
	}
	checkTop(t, "six alike", top, l)
}

// spoilTop writes over all that an answer has, up to its capacity.
func spoilTop(top impl.Top) {
	l := top.Items[:cap(top.Items)]
	for i := range l {
		l[i] = impl.Heavy{Key: "spoilt", Count: -1}
	}
}

func TestTopsAreNewMemory(t *testing.T) {
	tops := rightTops()
	for _, wrong := range wrongTops() {
		tops = append(tops, wrong)
	}
	tops = append(tops, impl.Top{Items: slices.Grow(heavyItems(1, 2, 3), 10), Total: 100})
	other := barely(keysFrom('d', 4, 5, 6, 7), 0)
	for i, top := range tops {
		keep, keepOther := cloneTop(top), cloneTop(other)
		for _, c := range []came{{"a", 1}, {"zz", 3}, {"A", greatestPut}, {"", 1}, {"a", 0}} {
			spoilTop(impl.TopPut(top, c.key, c.weight))
		}
		spoilTop(impl.TopMerge(top, other))
		spoilTop(impl.TopMerge(other, top))
		spoilTop(impl.TopMerge(top, impl.Top{}))
		spoilTop(impl.TopMerge(impl.Top{}, top))
		spoilTop(impl.TopMerge(top, top))
		impl.TopCount(top, "a")
		if !sameTop(top, keep) || !sameTop(other, keepOther) {
			t.Fatalf("top %d was changed: %+v, was %+v", i, top, keep)
		}
	}
}

func TestTopsKeepNothing(t *testing.T) {
	top := barely(heavyItems(3, 1, 4, 1, 5), 0)
	first := impl.TopPut(top, "z", 2)
	for range 3 {
		if got := impl.TopPut(top, "z", 2); !sameTop(got, first) {
			t.Fatalf("%+v, at first %+v", got, first)
		}
	}
}
