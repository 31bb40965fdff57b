package tests

import (
	"math"
	"math/rand"
	"strconv"
	"testing"

	"loop.example/g00505/impl"
)

func expectNamed(t *testing.T, p impl.Topology, s string, want int) {
	t.Helper()
	if r, ok := impl.ParseAS(p, s); r != want || !ok {
		t.Errorf("ParseAS(%q) = %d, %v; want %d, true", s, r, ok, want)
	}
}

func expectNameless(t *testing.T, p impl.Topology, s string) {
	t.Helper()
	if r, ok := impl.ParseAS(p, s); r != -1 || ok {
		t.Errorf("ParseAS(%q) = %d, %v; want -1, false", s, r, ok)
	}
}

// largeTopology has twelve ASes, with ISDs that are negative and large.
func largeTopology() impl.Topology {
	isds := []int{0, 1, 2, -1, -12, 3, 1000, math.MaxInt, math.MinInt, 0, 10, 7}
	p := impl.Topology{}
	for i, isd := range isds {
		p.ASes = append(p.ASes, impl.AS{ISD: isd, Key: i + 1})
	}
	return p
}

func TestFormatAS(t *testing.T) {
	p := world()
	for r, want := range []string{"0-0", "0-1", "1-2", "0-3", "0-4", "1-5", "1-6", "2-7"} {
		expectText(t, "FormatAS", impl.FormatAS(p, r), want)
	}
	for _, r := range append(strange(), 8, 9) {
		expectText(t, "FormatAS of no AS", impl.FormatAS(p, r), "?")
	}
	expectText(t, "FormatAS without ASes", impl.FormatAS(impl.Topology{}, 0), "?")
	large := []string{"0-0", "1-1", "2-2", "-1-3", "-12-4", "3-5", "1000-6", "9223372036854775807-7", "-9223372036854775808-8", "0-9", "10-10", "7-11"}
	for r, want := range large {
		expectText(t, "FormatAS", impl.FormatAS(largeTopology(), r), want)
	}
	expectText(t, "FormatAS of 12", impl.FormatAS(largeTopology(), 12), "?")
}

func TestEveryASHasANameOfItsOwn(t *testing.T) {
	r := rand.New(rand.NewSource(7))
	for range 300 {
		p := randomTopology(r)
		names := map[string]int{}
		for as := range p.ASes {
			name := impl.FormatAS(p, as)
			if other, ok := names[name]; ok {
				t.Fatalf("the ASes %d and %d have the name %q", other, as, name)
			}
			names[name] = as
			expectNamed(t, p, name, as)
		}
		for isd := -2; isd < 6; isd++ {
			for as := -2; as < 23; as++ {
				s := strconv.Itoa(isd) + "-" + strconv.Itoa(as)
				if want, ok := names[s]; ok {
					expectNamed(t, p, s, want)
				} else {
					expectNameless(t, p, s)
				}
			}
		}
	}
}

func TestParseASOfUnusualNames(t *testing.T) {
	p := largeTopology()
	for r := range p.ASes {
		expectNamed(t, p, impl.FormatAS(p, r), r)
	}
	expectNamed(t, p, "-1-3", 3)
	for _, s := range []string{"1-3", "--1-3", "-01-3", "+-1-3", "-1--3", "-1-03", "-1 -3", "-1-3-", "-1-3-3", "--3", "-3", "3"} {
		expectNameless(t, p, s)
	}
	expectNamed(t, p, "10-10", 10)
	expectNameless(t, p, "10-010")
	expectNameless(t, p, "10-1")
	expectNameless(t, p, "1-10")
}

func TestParseASRejectsOtherTexts(t *testing.T) {
	p := world()
	texts := []string{
		"", "?", "-", "--", "0", "-0", "0-", "0--0", "-0-0", "?-0", "0-?", "??",
		"00-0", "0-00", "00-00", "0-01", "01-1", "1-02", "01-2", "+0-0", "0-+0", "-1-0", "0--1", "0-8", "2-8", "1-0", "1-3", "2-2", "3-7",
		" 0-0", "0-0 ", "0 -0", "0- 0", "0-0\n", "\x000-0", "0-0\x00", "a0-0", "0a-0", "0-a0", "0-0a", "0-0-0", "0-0#1", "0_0", "0\u20130", "0=0",
		"\u0660-0", "0-\u0660", "\uff10-0", "0-\uff10", "\xff0-0", "0\xff-0", "0-\xff0", "0-0\xff", "0-0\xc3", "\xe20-0", "0-0\ufffd", "\ufffd0-0",
		"0-18446744073709551616", "0-18446744073709551617", "0-1000000000001", "18446744073709551616-0", "0-9223372036854775808",
	}
	for _, s := range texts {
		expectNameless(t, p, s)
		expectNameless(t, impl.Topology{}, s)
	}
	expectNameless(t, impl.Topology{}, "0-0")
}

func TestParseASWithEveryByteBetween(t *testing.T) {
	p := world()
	for c := range 256 {
		s := string([]byte{byte(c)})
		for _, name := range []string{s + "0-0", "0-0" + s, "0" + s + "-0", "0-" + s + "0"} {
			expectNameless(t, p, name)
		}
		if c == '-' {
			expectNamed(t, p, "1"+s+"2", 2)
		} else {
			expectNameless(t, p, "1"+s+"2")
		}
	}
}

func TestFormatInterface(t *testing.T) {
	p := world()
	expectText(t, "FormatInterface", impl.FormatInterface(p, 2, 6), "1-2#6")
	expectText(t, "FormatInterface without a link", impl.FormatInterface(p, 7, 1), "2-7#1")
	expectText(t, "FormatInterface of 0", impl.FormatInterface(p, 7, 0), "2-7#0")
	expectText(t, "FormatInterface of -1", impl.FormatInterface(p, 7, -1), "2-7#-1")
	expectText(t, "FormatInterface of 1000", impl.FormatInterface(p, 0, 1000), "0-0#1000")
	expectText(t, "FormatInterface of no AS", impl.FormatInterface(p, 8, 1), "?#1")
	expectText(t, "FormatInterface of AS -1", impl.FormatInterface(p, -1, -1), "?#-1")
}

func TestFormatLink(t *testing.T) {
	p := world()
	want := []string{
		"0-0#1=0-1#1", "0-1#2=1-2#1", "0-0#2=1-2#2", "1-2#6=2-7#3", "0-0#3>0-3#1", "0-1#3>0-3#2", "0-3#3>0-4#1", "0-3#4>0-4#2",
		"1-2#3>1-5#1", "1-5#2>1-6#1", "0-3#6~1-5#6", "0-4#3~1-6#3", "0-0#4>0-4#4",
	}
	for i := range p.Links {
		expectText(t, "FormatLink", impl.FormatLink(p, i), want[i])
	}
	for _, i := range append(strange(), 13, 14) {
		expectText(t, "FormatLink of no link", impl.FormatLink(p, i), "")
	}
	expectText(t, "FormatLink without links", impl.FormatLink(impl.Topology{}, 0), "")
	p.Links[0].Kind = 0
	p.Links[1].Kind = 4
	p.Links[2].Kind = -1
	p.Links[3].B = 8
	p.Links[4].A = -1
	p.Links[5] = impl.Link{A: 1, AInterface: -5, B: 0, BInterface: 0, Kind: impl.LkPeer}
	expectText(t, "FormatLink of kind 0", impl.FormatLink(p, 0), "0-0#1?0-1#1")
	expectText(t, "FormatLink of kind 4", impl.FormatLink(p, 1), "0-1#2?1-2#1")
	expectText(t, "FormatLink of kind -1", impl.FormatLink(p, 2), "0-0#2?1-2#2")
	expectText(t, "FormatLink to no AS", impl.FormatLink(p, 3), "1-2#6=?#3")
	expectText(t, "FormatLink from no AS", impl.FormatLink(p, 4), "?#3>0-3#1")
	expectText(t, "FormatLink of unusual interfaces", impl.FormatLink(p, 5), "0-1#-5~0-0#0")
}

func TestFormatTopology(t *testing.T) {
	p := family()
	expectText(t, "FormatTopology", impl.FormatTopology(p), "0-0#1=0-1#1 0-0#2>0-2#1 0-1#2>0-3#1 0-2#2>0-4#1")
	p.Links = p.Links[:2]
	expectText(t, "FormatTopology of two links", impl.FormatTopology(p), "0-0#1=0-1#1 0-0#2>0-2#1")
	p.Links = p.Links[1:]
	expectText(t, "FormatTopology of one link", impl.FormatTopology(p), "0-0#2>0-2#1")
	p.Links = p.Links[:0]
	expectText(t, "FormatTopology without links", impl.FormatTopology(p), "-")
	expectText(t, "FormatTopology of nothing", impl.FormatTopology(impl.Topology{}), "-")
	p = impl.Topology{Links: []impl.Link{{Kind: 9}, {A: -1, AInterface: 1, B: 2, BInterface: 3, Kind: impl.LkPeer}}}
	expectText(t, "FormatTopology without ASes", impl.FormatTopology(p), "?#0??#0 ?#1~?#3")
}

func TestKindName(t *testing.T) {
	names := map[int]string{impl.ToNone: "none", impl.ToCore: "core", impl.ToChild: "child", impl.ToParent: "parent", impl.ToPeer: "peer", impl.ToSelf: "self"}
	for kind, want := range names {
		expectText(t, "KindName", impl.KindName(kind), want)
	}
	for _, kind := range append(strange(), -1, 6, 7) {
		expectText(t, "KindName of no kind", impl.KindName(kind), "")
	}
}
