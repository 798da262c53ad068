package tests

import (
	"hash/fnv"
	"slices"
	"sort"
	"strconv"
	"strings"
	"testing"

	"loop.example/g00309/impl"
)

// Two names of one Hash: all their marks stand at the same places.
const (
	lesserTwin  = "no4fne4t5q0f0d"
	greaterTwin = "nowx451yrgx4og"
)

// rightMembers are lists of 1 to MaxMembers members, with names of 1 to 40 bytes.
func rightMembers() [][]string {
	l := [][]string{
		{"a"},
		{"a", "b"},
		{strings.Repeat("z", 40)},
		{"a", "a.", "a.0", "a0", "a_", "aa", "ab", "b"},
		{lesserTwin, greaterTwin},
		{"a", lesserTwin, greaterTwin, "z"},
	}
	for many := 1; many <= impl.MaxMembers; many++ {
		var letters, long []string
		for i := range many {
			letters = append(letters, string(rune('a'+i)))
			long = append(long, strings.Repeat("m", 38)+strconv.Itoa(10+i))
		}
		l = append(l, letters, long, spreadNames(many))
	}
	return l
}

func spreadNames(many int) []string {
	s := steps(uint64(many) * 1000)
	var names []string
	for len(names) < many {
		name := "s" + strconv.FormatUint(s.next(), 36)
		name = name[:1+s.next()%uint64(len(name)-1)]
		if !slices.Contains(names, name) {
			names = append(names, name)
		}
	}
	slices.Sort(names)
	return names
}

func someKeys() []string {
	keys := []string{
		"", "a", "hits{}", "hits{a,b:1}", "x#0", "#", "\x00", "\xff\xfe", "Ünicode ✓", " ", "\n",
		strings.Repeat("k", impl.MaxBytes-1), strings.Repeat("k", impl.MaxBytes),
	}
	for c := range 256 {
		keys = append(keys, string([]byte{byte(c)}))
	}
	s := steps(5)
	for i := range 200 {
		keys = append(keys, "requests{node:"+strconv.Itoa(i)+"}", strconv.FormatUint(s.next(), 36))
	}
	return keys
}

func markText(member string, k int) string {
	return member + "#" + strconv.Itoa(k)
}

func markKeys(members []string) []string {
	var keys []string
	for _, m := range members {
		for k := range impl.Marks {
			keys = append(keys, markText(m, k))
		}
	}
	return keys
}

func libraryHash(text string) uint64 {
	h := fnv.New64a()
	h.Write([]byte(text))
	return h.Sum64()
}

// plainRing is the ring by the library's hash and order, apart from the program's way.
func plainRing(members []string) []impl.Mark {
	var ring []impl.Mark
	for _, m := range members {
		for k := range impl.Marks {
			ring = append(ring, impl.Mark{At: libraryHash(markText(m, k)), Member: m})
		}
	}
	sort.Slice(ring, func(i, j int) bool {
		if ring[i].At != ring[j].At {
			return ring[i].At < ring[j].At
		}
		return ring[i].Member < ring[j].Member
	})
	return ring
}

// plainOwner looks for the nearest mark upward, round the end of the numbers, instead of the first in order.
func plainOwner(members []string, key string) string {
	at := libraryHash(key)
	var owner string
	var nearest uint64
	for _, m := range members {
		for k := range impl.Marks {
			way := libraryHash(markText(m, k)) - at
			if owner == "" || way < nearest {
				owner, nearest = m, way
			}
		}
	}
	return owner
}

func TestHash(t *testing.T) {
	for text, want := range map[string]uint64{
		"":       0xcbf29ce484222325,
		"a":      0xaf63dc4c8601ec8c,
		"b":      0xaf63df4c8601f1a5,
		"foobar": 0x85944171f73967e8,
	} {
		if got := impl.Hash(text); got != want {
			t.Errorf("Hash(%q): %x, want %x", text, got, want)
		}
	}
	for _, text := range someKeys() {
		if got, want := impl.Hash(text), libraryHash(text); got != want {
			t.Errorf("Hash(%.30q) of %d bytes: %d, want %d", text, len(text), got, want)
		}
	}
}

func TestHashOfTooLongText(t *testing.T) {
	for _, more := range []int{1, 2, impl.MaxBytes} {
		if got := impl.Hash(strings.Repeat("a", impl.MaxBytes+more)); got != 0 {
			t.Errorf("Hash of %d bytes too many: %d, want 0", more, got)
		}
	}
}

func wrongMembers() map[string][]string {
	many := func(n int) []string {
		var l []string
		for i := range n {
			l = append(l, "m"+strconv.Itoa(1000+i))
		}
		return l
	}
	wrong := map[string][]string{
		"none":                   nil,
		"an empty list":          {},
		"13":                     many(impl.MaxMembers + 1),
		"MaxList":                many(impl.MaxList),
		"one more than MaxList":  many(impl.MaxList + 1),
		"twice MaxList":          many(2 * impl.MaxList),
		"MaxList and one alike":  slices.Repeat([]string{"a"}, impl.MaxList+1),
		"13, falling at the end": append(many(impl.MaxMembers), "a"),
		"falling":                {"b", "a"},
		"falling at the end":     {"a", "c", "b"},
		"falling at the start":   {"b", "a", "c"},
		"falling by a byte more": {"aa", "a"},
		"twice":                  {"a", "a"},
		"twice at the end":       {"a", "b", "b"},
		"twice, apart":           {"a", "b", "a"},
		"twins that fall":        {greaterTwin, lesserTwin},
	}
	for _, text := range []string{"", "A", "0", "9a", "_", ".a", "a#0", "a-", "a b", "é", "a\n", "~", strings.Repeat("a", 41), strings.Repeat("a", impl.MaxBytes+1)} {
		wrong["no name alone: "+text] = []string{text}
		wrong["no name first: "+text] = []string{text, "zz"}
		wrong["no name last: "+text] = []string{"a", text}
		between := []string{"a", "b", text}
		slices.Sort(between)
		wrong["no name in order: "+text] = between
	}
	return wrong
}

func TestMembersRight(t *testing.T) {
	for _, members := range rightMembers() {
		if !impl.MembersRight(members) {
			t.Errorf("MembersRight(%q) is false", members)
		}
	}
}

func TestWrongMembers(t *testing.T) {
	for what, members := range wrongMembers() {
		if impl.MembersRight(members) {
			t.Errorf("MembersRight of %.60q is true", what)
		}
		if ring := impl.RingOf(members); len(ring) != 0 {
			t.Errorf("RingOf of %.60q has %d marks", what, len(ring))
		}
		for _, key := range []string{"", "a", "hits{}", "a#0", strings.Repeat("k", impl.MaxBytes+1)} {
			if owner := impl.OwnerOf(members, key); owner != "" {
				t.Errorf("OwnerOf of %.60q and a key of %d bytes: %q", what, len(key), owner)
			}
		}
	}
}

func TestRingOf(t *testing.T) {
	for _, members := range rightMembers() {
		ring := impl.RingOf(members)
		if len(ring) != len(members)*impl.Marks {
			t.Fatalf("RingOf(%q) has %d marks", members, len(ring))
		}
		if want := plainRing(members); !slices.Equal(ring, want) {
			t.Errorf("RingOf(%q): %v, want %v", members, ring, want)
		}
	}
}

func TestRingOfTwins(t *testing.T) {
	if impl.Hash(lesserTwin) != impl.Hash(greaterTwin) {
		t.Fatal("the twins have not the same Hash")
	}
	ring := impl.RingOf([]string{lesserTwin, greaterTwin})
	for i := 0; i < len(ring); i += 2 {
		if ring[i].At != ring[i+1].At || ring[i].Member != lesserTwin || ring[i+1].Member != greaterTwin {
			t.Errorf("the marks %d and %d of twins: %v, %v", i, i+1, ring[i], ring[i+1])
		}
	}
	for _, key := range someKeys() {
		if owner := impl.OwnerOf([]string{lesserTwin, greaterTwin}, key); owner != lesserTwin {
			t.Errorf("OwnerOf %.30q among twins: %q", key, owner)
		}
	}
}

func TestRingIsNewMemory(t *testing.T) {
	members := []string{"a", "b", "c"}
	first := impl.RingOf(members)
	kept := slices.Clone(first)
	second := impl.RingOf(members)
	second[0] = impl.Mark{}
	members[0], members[1], members[2] = "x", "y", "z"
	if !slices.Equal(first, kept) {
		t.Error("a ring is changed by what becomes of another, or of its members")
	}
}

func TestMembersAreNotChanged(t *testing.T) {
	for _, given := range [][]string{{"a", "b", "c"}, {"c", "a", "b"}, {"a", "A"}} {
		kept := slices.Clone(given)
		impl.MembersRight(given)
		impl.RingOf(given)
		impl.OwnerOf(given, "key")
		if !slices.Equal(given, kept) {
			t.Errorf("members that were %q are %q", kept, given)
		}
	}
}

func TestPromise3OwnerIsAMember(t *testing.T) {
	for _, members := range rightMembers() {
		for _, key := range append(someKeys(), markKeys(members)...) {
			owner := impl.OwnerOf(members, key)
			if !slices.Contains(members, owner) {
				t.Fatalf("OwnerOf(%q, %.30q): %q is no member", members, key, owner)
			}
			if want := plainOwner(members, key); owner != want {
				t.Fatalf("OwnerOf(%q, %.30q): %q, want %q", members, key, owner, want)
			}
		}
	}
}

func TestPromise3WithAMemberMore(t *testing.T) {
	keys := someKeys()
	moved := 0
	for _, members := range rightMembers() {
		for _, more := range []string{"a", "h5", "mm", "zz", lesserTwin, greaterTwin, strings.Repeat("n", 40)} {
			if len(members) == impl.MaxMembers || slices.Contains(members, more) {
				continue
			}
			all := append(slices.Clone(members), more)
			slices.Sort(all)
			for _, key := range append(markKeys(all), keys...) {
				before, after := impl.OwnerOf(members, key), impl.OwnerOf(all, key)
				if after != before && after != more {
					t.Fatalf("OwnerOf %.30q goes from %q to %q, as %q comes to %q", key, before, after, more, members)
				}
				if after == more {
					moved++
				}
			}
		}
	}
	if moved == 0 {
		t.Error("a member that comes never owns a key")
	}
}

func TestPromise3ATwinMore(t *testing.T) {
	for _, key := range someKeys() {
		if owner := impl.OwnerOf([]string{greaterTwin}, key); owner != greaterTwin {
			t.Errorf("OwnerOf %.30q of one member: %q", key, owner)
		}
		few, all := []string{"a", lesserTwin}, []string{"a", lesserTwin, greaterTwin}
		if before, after := impl.OwnerOf(few, key), impl.OwnerOf(all, key); after != before {
			t.Errorf("OwnerOf %.30q goes from %q to %q, as a greater twin comes", key, before, after)
		}
	}
}

func TestOwnerOfAMark(t *testing.T) {
	for _, members := range rightMembers() {
		if slices.Contains(members, greaterTwin) {
			continue
		}
		for _, m := range members {
			for k := range impl.Marks {
				if owner := impl.OwnerOf(members, markText(m, k)); owner != m {
					t.Errorf("OwnerOf(%q, %q): %q, want the mark's own member", members, markText(m, k), owner)
				}
			}
		}
	}
}

func TestOwnerBehindTheLastMark(t *testing.T) {
	members := []string{"a", "b", "c"}
	ring := plainRing(members)
	first, last := ring[0], ring[len(ring)-1]
	if first.Member == last.Member {
		t.Fatal("the first and the last mark don't tell members apart")
	}
	ahead, behind := 0, 0
	s := steps(4)
	for range 5000 {
		// Keys that differ in their last bytes alone have Hashes that lie close together.
		key := strconv.FormatUint(s.next(), 36)
		at := libraryHash(key)
		if at > last.At {
			behind++
		} else if at < first.At {
			ahead++
		} else {
			continue
		}
		if owner := impl.OwnerOf(members, key); owner != first.Member {
			t.Errorf("OwnerOf %q: %q, want that of the first mark, %q", key, owner, first.Member)
		}
	}
	if ahead == 0 || behind == 0 {
		t.Fatalf("%d keys ahead of all marks, %d behind", ahead, behind)
	}
}

func TestOwnerOfLongKeys(t *testing.T) {
	for _, members := range rightMembers() {
		for _, c := range []string{"a", "\x00", "\xff"} {
			key := strings.Repeat(c, impl.MaxBytes)
			if owner := impl.OwnerOf(members, key); owner != plainOwner(members, key) {
				t.Errorf("OwnerOf(%q) of %d times %q: %q", members, impl.MaxBytes, c, owner)
			}
			if owner := impl.OwnerOf(members, key+c); owner != "" {
				t.Errorf("OwnerOf(%q) of one %q too many: %q", members, c, owner)
			}
		}
	}
}
