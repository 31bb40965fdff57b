package tests

import (
	"math"
	"math/bits"
	"testing"

	"loop.example/g00505/impl"
)

const fullSet = 65535

// noSets holds numbers that are no sets; all of them have bits that a set may have.
func noSets() []int {
	return []int{-1, -2, -65536, -65535, 65536, 65537, 65536 + 5, 131071, 1 << 32, math.MinInt, math.MinInt + 7, math.MaxInt}
}

// noElements holds numbers that no set contains.
func noElements() []int {
	return []int{-1, -2, -15, -16, -64, 16, 17, 31, 32, 63, 64, 65, 128, math.MinInt, math.MaxInt}
}

// someSets holds small sets, large sets, and some between.
func someSets() []int {
	l := []int{}
	for s := range 64 {
		l = append(l, s, fullSet-s, s<<10, s*1021)
	}
	for i := range impl.MaxSet {
		l = append(l, 1<<i, fullSet-1<<i)
	}
	return l
}

func TestMaxSet(t *testing.T) {
	expectInt(t, "MaxSet", impl.MaxSet, 16)
}

func TestValidSet(t *testing.T) {
	for _, s := range append(someSets(), 0, 1, 65534, 65535) {
		if !impl.ValidSet(s) {
			t.Errorf("ValidSet(%d) is false", s)
		}
	}
	for _, s := range noSets() {
		if impl.ValidSet(s) {
			t.Errorf("ValidSet(%d) is true", s)
		}
	}
}

func TestContains(t *testing.T) {
	for _, s := range someSets() {
		for i := range impl.MaxSet {
			if ok := impl.Contains(s, i); ok != (s>>i&1 == 1) {
				t.Errorf("Contains(%d, %d) = %v", s, i, ok)
			}
		}
		for _, i := range noElements() {
			if impl.Contains(s, i) {
				t.Errorf("Contains(%d, %d) is true", s, i)
			}
		}
	}
	for _, s := range noSets() {
		for i := -1; i <= impl.MaxSet+1; i++ {
			if impl.Contains(s, i) {
				t.Errorf("Contains(%d, %d) is true", s, i)
			}
		}
	}
}

func TestAddElementAndRemoveElement(t *testing.T) {
	for _, s := range someSets() {
		for i := range impl.MaxSet {
			added, removed := impl.AddElement(s, i), impl.RemoveElement(s, i)
			for k := range impl.MaxSet {
				if ok := impl.Contains(added, k); ok != (k == i || impl.Contains(s, k)) {
					t.Errorf("AddElement(%d, %d) = %d: contains %d: %v", s, i, added, k, ok)
				}
				if ok := impl.Contains(removed, k); ok != (k != i && impl.Contains(s, k)) {
					t.Errorf("RemoveElement(%d, %d) = %d: contains %d: %v", s, i, removed, k, ok)
				}
			}
		}
		for _, i := range noElements() {
			expectInt(t, "AddElement without an element", impl.AddElement(s, i), s)
			expectInt(t, "RemoveElement without an element", impl.RemoveElement(s, i), s)
		}
	}
	for _, s := range noSets() {
		for _, i := range append(noElements(), 0, 1, 2, 15) {
			expectInt(t, "AddElement to no set", impl.AddElement(s, i), s)
			expectInt(t, "RemoveElement from no set", impl.RemoveElement(s, i), s)
		}
	}
	expectInt(t, "AddElement(0, 0)", impl.AddElement(0, 0), 1)
	expectInt(t, "AddElement(0, 15)", impl.AddElement(0, 15), 32768)
	expectInt(t, "AddElement(5, 2)", impl.AddElement(5, 2), 5)
	expectInt(t, "RemoveElement(5, 2)", impl.RemoveElement(5, 2), 1)
	expectInt(t, "RemoveElement(5, 1)", impl.RemoveElement(5, 1), 5)
	expectInt(t, "RemoveElement(65535, 15)", impl.RemoveElement(fullSet, 15), 32767)
}

func TestUnionAndIntersection(t *testing.T) {
	cases := []struct{ a, b, union, intersection int }{
		{0, 0, 0, 0}, {5, 2, 7, 0}, {7, 10, 15, 2}, {0, fullSet, fullSet, 0}, {fullSet, fullSet, fullSet, fullSet}, {32768, 1, 32769, 0}, {fullSet, 6, fullSet, 6},
	}
	for _, c := range cases {
		for _, p := range [][2]int{{c.a, c.b}, {c.b, c.a}} {
			expectInt(t, "Union", impl.Union(p[0], p[1]), c.union)
			expectInt(t, "Intersection", impl.Intersection(p[0], p[1]), c.intersection)
		}
	}
	for _, x := range noSets() {
		for _, y := range append(noSets(), 0, 1, 7, fullSet) {
			for _, p := range [][2]int{{x, y}, {y, x}} {
				expectInt(t, "Union with no set", impl.Union(p[0], p[1]), 0)
				expectInt(t, "Intersection with no set", impl.Intersection(p[0], p[1]), 0)
			}
		}
	}
}

func TestASetConsistsOfItsElements(t *testing.T) {
	for s := range fullSet + 1 {
		l := impl.Elements(s)
		if impl.MakeSet(l) != s || len(l) != impl.SetSize(s) || len(l) != bits.OnesCount(uint(s)) {
			t.Fatalf("Elements(%d) = %v; SetSize = %d", s, l, impl.SetSize(s))
		}
		for k, i := range l {
			if !impl.Contains(s, i) || k > 0 && l[k-1] >= i {
				t.Fatalf("Elements(%d) = %v", s, l)
			}
		}
	}
}

func TestElementsOfWrittenSets(t *testing.T) {
	expectInts(t, "Elements(0)", impl.Elements(0))
	expectInts(t, "Elements(1)", impl.Elements(1), 0)
	expectInts(t, "Elements(10)", impl.Elements(10), 1, 3)
	expectInts(t, "Elements(32768)", impl.Elements(32768), 15)
	expectInts(t, "Elements(65535)", impl.Elements(fullSet), 0, 1, 2, 3, 4, 5, 6, 7, 8, 9, 10, 11, 12, 13, 14, 15)
	expectInt(t, "SetSize(0)", impl.SetSize(0), 0)
	expectInt(t, "SetSize(10)", impl.SetSize(10), 2)
	expectInt(t, "SetSize(65535)", impl.SetSize(fullSet), 16)
	for _, s := range noSets() {
		expectInts(t, "Elements of no set", impl.Elements(s))
		expectInt(t, "SetSize of no set", impl.SetSize(s), 0)
	}
}

func TestMakeSet(t *testing.T) {
	cases := []struct {
		l    []int
		want int
	}{
		{nil, 0}, {[]int{}, 0}, {[]int{0}, 1}, {[]int{15}, 32768}, {[]int{1, 3, 3, 99}, 10}, {[]int{3, 1}, 10}, {[]int{2, 2, 2}, 4},
		{[]int{-1}, 0}, {[]int{16}, 0}, {[]int{-1, 0, 16, 15, 17}, 32769}, {[]int{15, 14, 13, 12, 11, 10, 9, 8, 7, 6, 5, 4, 3, 2, 1, 0, 0}, fullSet},
		{noElements(), 0},
	}
	for _, c := range cases {
		if s := impl.MakeSet(c.l); s != c.want {
			t.Errorf("MakeSet(%v) = %d; want %d", c.l, s, c.want)
		}
	}
	plain := []int{3, 1, 3}
	l := withSpare(plain, 77)
	impl.MakeSet(l)
	expectUntouched(t, l, plain, 77)
}

func TestResultsOfElementsAreSeparate(t *testing.T) {
	first, second := impl.Elements(10), impl.Elements(10)
	first[0] = 9
	expectInts(t, "Elements(10)", second, 1, 3)
	expectInts(t, "Elements(10)", impl.Elements(10), 1, 3)
}
