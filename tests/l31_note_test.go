package tests

import (
	"math"
	"math/rand"
	"slices"
	"testing"

	"loop.example/g00505/impl"
)

func TestMaxRevocations(t *testing.T) {
	expectInt(t, "MaxRevocations", impl.MaxRevocations, 16)
}

// invalidRevocations have one field out of its range each; the first ones have no negative number.
func invalidRevocations() (large []impl.Revocation, negative []impl.Revocation) {
	large = []impl.Revocation{{AS: 8, Interface: 1}, {AS: 3, Interface: 0, Until: 9}, {AS: 3, Interface: 7, Until: 9}, {AS: 3, Interface: 1, Until: impl.MaxTime + 1}, {}, {AS: 1000000, Interface: 3}, {AS: 2, Interface: 1000000}, {AS: 2, Interface: 9, Until: 5}}
	negative = []impl.Revocation{{AS: -1, Interface: 1}, {AS: 3, Interface: -1}, {AS: 3, Interface: 1, Until: -1}, {AS: math.MinInt, Interface: 1}, {AS: 3, Interface: math.MinInt}, {AS: 3, Interface: 1, Until: math.MinInt}}
	return large, negative
}

func TestValidRevocation(t *testing.T) {
	fields := []struct {
		set      func(x *impl.Revocation, n int)
		from, to int
	}{
		{func(x *impl.Revocation, n int) { x.AS = n }, 0, 7},
		{func(x *impl.Revocation, n int) { x.Interface = n }, 1, 6},
		{func(x *impl.Revocation, n int) { x.Until = n }, 0, impl.MaxTime},
	}
	for i, f := range fields {
		for n, want := range map[int]bool{f.from - 1: false, f.from: true, f.to: true, f.to + 1: false, math.MinInt: false, math.MaxInt: false} {
			x := impl.Revocation{AS: 3, Interface: 4, Until: 50}
			f.set(&x, n)
			if ok := impl.ValidRevocation(x); ok != want {
				t.Errorf("ValidRevocation with %d in field %d = %v", n, i, ok)
			}
		}
	}
	large, negative := invalidRevocations()
	for _, x := range append(large, negative...) {
		expectBool(t, "ValidRevocation", impl.ValidRevocation(x), false)
	}
}

func TestAffects(t *testing.T) {
	for _, p := range append(worldPaths(), impl.Path{}, pathOfParts(impl.PathPart{}), pathOfParts(onePart(impl.PaUp, 3))) {
		used := impl.InterfacesUsed(p)
		for r := range 8 {
			for iface := 1; iface <= 6; iface++ {
				for _, until := range []int{0, 50, impl.MaxTime} {
					expectBool(t, "Affects", impl.Affects(p, impl.Revocation{AS: r, Interface: iface, Until: until}), slices.Contains(used, 8*r+iface))
				}
			}
		}
	}
	// The first and the last interface of the long path.
	expectBool(t, "Affects", impl.Affects(longPath(), impl.Revocation{AS: 4, Interface: 1}), true)
	expectBool(t, "Affects", impl.Affects(longPath(), impl.Revocation{AS: 6, Interface: 1}), true)
}

// What is not valid affects nothing, even if its number occurs.
func TestAffectsOfInvalidRevocations(t *testing.T) {
	wild := pathOfParts(impl.PathPart{Kind: impl.PaCore, Hops: []impl.Hop{{AS: 8, Egress: 1}, {AS: 3, Ingress: 8, Egress: 7}, {AS: -1, Ingress: 1, Egress: 9}, {AS: 3, Ingress: 1}}})
	for _, x := range []impl.Revocation{{AS: 8, Interface: 1}, {AS: 3, Interface: 7}, {AS: 3, Interface: 8}, {AS: 4, Interface: 0}, {AS: -1, Interface: 1}, {AS: 3, Interface: 1, Until: -1}, {AS: 3, Interface: 1, Until: impl.MaxTime + 1}, {AS: 4, Interface: -7}, {AS: 2, Interface: 9}} {
		if !slices.Contains(impl.InterfacesUsed(wild), 8*x.AS+x.Interface) {
			t.Errorf("the number of %+v does not occur", x)
		}
		expectBool(t, "Affects of an invalid revocation", impl.Affects(wild, x), false)
		expectBool(t, "Revoked by an invalid revocation", impl.Revoked([]impl.Revocation{x}, wild, -5), false)
	}
	expectBool(t, "Affects", impl.Affects(wild, impl.Revocation{AS: 3, Interface: 1}), true)
}

// revocations returns n valid ones with different interfaces.
func revocations(n int) []impl.Revocation {
	l := []impl.Revocation{}
	for i := range n {
		l = append(l, impl.Revocation{AS: i / 6, Interface: 1 + i%6, Until: 100 + i})
	}
	return l
}

func TestAddRevocation(t *testing.T) {
	x := impl.Revocation{AS: 7, Interface: 6, Until: 50}
	expectSame(t, "AddRevocation to none", impl.AddRevocation(nil, x), []impl.Revocation{x})
	for n := range 20 {
		l := revocations(n)
		want := append(slices.Clone(l), x)
		if n >= 16 {
			want = want[1:]
		}
		expectSame(t, "AddRevocation to "+impl.FormatInt(n), impl.AddRevocation(l, x), want)
		large, negative := invalidRevocations()
		for _, bad := range append(large, negative...) {
			expectSame(t, "AddRevocation of an invalid one", impl.AddRevocation(l, bad), l)
			expectSame(t, "AddRevocation to an invalid one", impl.AddRevocation([]impl.Revocation{bad}, x), []impl.Revocation{bad, x})
		}
		for i := range l {
			for _, by := range []int{-100, -1, 0, 1, 100} {
				y := l[i]
				y.Until += by
				want := slices.Clone(l)
				want[i].Until = max(l[i].Until, y.Until)
				expectSame(t, "AddRevocation of one that is there", impl.AddRevocation(l, y), want)
			}
			y := l[i]
			y.AS, y.Interface = 7, 6
			expectInt(t, "AddRevocation of another", len(impl.AddRevocation(l, y)), min(n+1, max(n, 16)))
		}
	}
}

// If one is there twice, only the first one is changed.
func TestAddRevocationOfOneThatIsThereTwice(t *testing.T) {
	l := []impl.Revocation{{AS: 3, Interface: 2, Until: 7}, {AS: 2, Interface: 3, Until: 20}, {AS: 3, Interface: 3, Until: 9}, {AS: 2, Interface: 3, Until: 40}, {AS: 2, Interface: 3, Until: 10}}
	for until, want := range map[int]int{0: 20, 19: 20, 20: 20, 21: 21, 39: 39, 41: 41, impl.MaxTime: impl.MaxTime} {
		changed := slices.Clone(l)
		changed[1].Until = want
		expectSame(t, "AddRevocation", impl.AddRevocation(l, impl.Revocation{AS: 2, Interface: 3, Until: until}), changed)
	}
	expectSame(t, "AddRevocation of an invalid one", impl.AddRevocation(l, impl.Revocation{AS: 2, Interface: 3, Until: impl.MaxTime + 1}), l)
	odd := []impl.Revocation{{AS: 2, Interface: 3, Until: -50}}
	expectSame(t, "AddRevocation behind an invalid time", impl.AddRevocation(odd, impl.Revocation{AS: 2, Interface: 3, Until: 0}), []impl.Revocation{{AS: 2, Interface: 3}})
	odd[0].Until = math.MaxInt
	expectSame(t, "AddRevocation ahead of an invalid time", impl.AddRevocation(odd, impl.Revocation{AS: 2, Interface: 3, Until: 5}), odd)
}

func TestActiveRevocations(t *testing.T) {
	l := []impl.Revocation{{AS: 3, Interface: 2, Until: 7}, {AS: 2, Interface: 3, Until: 5}, {AS: 99, Interface: -1, Until: 6}, {AS: 3, Interface: 2, Until: 7}, {Until: -4}, {Until: math.MaxInt}}
	for now, want := range map[int][]int{math.MinInt: {0, 1, 2, 3, 4, 5}, -4: {0, 1, 2, 3, 4, 5}, -3: {0, 1, 2, 3, 5}, 4: {0, 1, 2, 3, 5}, 5: {0, 1, 2, 3, 5}, 6: {0, 2, 3, 5}, 7: {0, 3, 5}, 8: {5}, math.MaxInt: {5}} {
		active := []impl.Revocation{}
		for _, i := range want {
			active = append(active, l[i])
		}
		expectSame(t, "ActiveRevocations at "+impl.FormatInt(now), impl.ActiveRevocations(l, now), active)
	}
	expectSame(t, "ActiveRevocations of none", impl.ActiveRevocations(nil, 5), nil)
}

func TestRevoked(t *testing.T) {
	p := longPath()
	on, off := impl.Revocation{AS: 0, Interface: 2, Until: 60}, impl.Revocation{AS: 0, Interface: 1, Until: 90}
	cases := []struct {
		what string
		l    []impl.Revocation
		last int
	}{
		{"none", nil, -1}, {"one that affects it", []impl.Revocation{on}, 60}, {"one that does not", []impl.Revocation{off}, -1}, {"both", []impl.Revocation{off, on}, 60}, {"both, turned", []impl.Revocation{on, off}, 60},
		{"two that affect it", []impl.Revocation{{AS: 4, Interface: 1, Until: 40}, {AS: 6, Interface: 1, Until: 55}, {AS: 5, Interface: 2, Until: 30}}, 55},
		{"an invalid one", []impl.Revocation{{AS: 0, Interface: 2, Until: impl.MaxTime + 1}}, -1},
	}
	for _, c := range cases {
		for _, now := range []int{0, c.last - 1, c.last, c.last + 1, 70, impl.MaxTime} {
			expectBool(t, "Revoked by "+c.what, impl.Revoked(c.l, p, now), c.last >= 0 && now <= c.last)
		}
		expectBool(t, "Revoked without steps", impl.Revoked(c.l, impl.Path{}, 0), false)
	}
	expectBool(t, "Revoked long ago", impl.Revoked([]impl.Revocation{on}, p, math.MinInt), true)
}

// A path is revoked if and only if an active revocation affects it.
func TestManyRevocations(t *testing.T) {
	revoked := map[bool]int{}
	manyPaths(t, 54, func(r *rand.Rand, p impl.Topology, path impl.Path) {
		l := []impl.Revocation{}
		for range r.Intn(9) {
			x := impl.Revocation{AS: r.Intn(9), Interface: r.Intn(8), Until: r.Intn(40)}
			want := impl.ValidRevocation(x) && slices.Contains(impl.InterfacesUsed(path), 8*x.AS+x.Interface)
			expectBool(t, "Affects", impl.Affects(path, x), want)
			l = append(l, x)
		}
		now := r.Intn(40)
		want := slices.ContainsFunc(l, func(x impl.Revocation) bool { return x.Until >= now && impl.Affects(path, x) })
		expectBool(t, "Revoked", impl.Revoked(l, path, now), want)
		revoked[want]++
	})
	if revoked[true] < 100 || revoked[false] < 100 {
		t.Errorf("too few paths: %v", revoked)
	}
}

func TestPreferUnrevoked(t *testing.T) {
	l := worldPaths()
	over4 := []impl.Revocation{{AS: 4, Interface: 1, Until: 50}}
	first, last := []impl.Path{}, []impl.Path{}
	for _, p := range l {
		if slices.Contains(impl.InterfacesUsed(p), 33) {
			last = append(last, p)
		} else {
			first = append(first, p)
		}
	}
	if len(first) < 3 || len(last) < 3 {
		t.Fatal("too few paths")
	}
	expectSame(t, "PreferUnrevoked", impl.PreferUnrevoked(over4, l, 50), slices.Concat(first, last))
	expectSame(t, "PreferUnrevoked of what has expired", impl.PreferUnrevoked(over4, l, 51), l)
	expectSame(t, "PreferUnrevoked without revocations", impl.PreferUnrevoked(nil, l, 50), l)
	expectSame(t, "PreferUnrevoked of no paths", impl.PreferUnrevoked(over4, nil, 50), nil)
	expectSame(t, "PreferUnrevoked of revoked ones", impl.PreferUnrevoked(over4, last, 50), last)
	expectSame(t, "PreferUnrevoked of the others", impl.PreferUnrevoked(over4, first, 50), first)
	mixed := []impl.Path{last[0], first[0], last[0], impl.Path{}, first[0], last[1]}
	expectSame(t, "PreferUnrevoked of paths that are there twice", impl.PreferUnrevoked(over4, mixed, 50), []impl.Path{first[0], {}, first[0], last[0], last[0], last[1]})
}

func TestRevocationsAreDecodedFromTheirEncodings(t *testing.T) {
	for _, x := range append(revocations(48), impl.Revocation{Interface: 1}, impl.Revocation{AS: 7, Interface: 6, Until: impl.MaxTime}, impl.Revocation{AS: 3, Interface: 4, Until: 127}, impl.Revocation{AS: 3, Interface: 4, Until: 128}) {
		b := impl.EncodeRevocation(x)
		if !slices.Equal(b, encodeAll(x.AS, x.Interface, x.Until)) {
			t.Errorf("EncodeRevocation(%+v) = %v", x, b)
		}
		if y, ok := impl.DecodeRevocation(b); !ok || y != x {
			t.Errorf("DecodeRevocation(%v) = %+v, %v", b, y, ok)
		}
		for end := range b {
			expectNoRevocation(t, "a prefix", b[:end])
		}
		for _, more := range []byte{0, 1, 128} {
			expectNoRevocation(t, "a byte more", append(slices.Clone(b), more))
		}
		for i, c := range b {
			if c < 128 {
				expectNoRevocation(t, "a needless group", slices.Concat(b[:i], []byte{c + 128, 0}, b[i+1:]))
			}
		}
	}
}

func expectNoRevocation(t *testing.T, what string, b []byte) {
	t.Helper()
	if x, ok := impl.DecodeRevocation(b); ok || x != (impl.Revocation{}) {
		t.Errorf("%s: DecodeRevocation(%v) = %+v, %v; want nothing", what, b, x, ok)
	}
}

func TestInvalidRevocationsAreNeitherEncodedNorDecoded(t *testing.T) {
	large, negative := invalidRevocations()
	for _, x := range append(large, negative...) {
		if b := impl.EncodeRevocation(x); len(b) != 0 {
			t.Errorf("EncodeRevocation(%+v) = %v", x, b)
		}
	}
	for _, x := range large {
		expectNoRevocation(t, "an invalid revocation", encodeAll(x.AS, x.Interface, x.Until))
	}
	for _, b := range [][]byte{nil, {}, {0}, {1, 1}, {128, 128, 128}, make([]byte, 40), encodeAll(1, 1, 1, 1), []byte("hello")} {
		expectNoRevocation(t, "other bytes", b)
	}
}

func TestRevocationsShareNoMemory(t *testing.T) {
	x := impl.Revocation{AS: 4, Interface: 1, Until: 50}
	for n := range 19 {
		l := revocations(n)
		expectPure(t, "AddRevocation", impl.AddRevocation, l, x)
		expectPure(t, "AddRevocation", impl.AddRevocation, l, impl.Revocation{AS: 0, Interface: 1, Until: 500})
		expectPure(t, "AddRevocation", impl.AddRevocation, l, impl.Revocation{})
		expectPure(t, "ActiveRevocations", impl.ActiveRevocations, l, 105)
		expectPure(t, "PreferUnrevoked", impl.PreferUnrevoked, l, worldPaths(), 105)
		expectPure(t, "Revoked", impl.Revoked, l, longPath(), 105)
	}
	expectPure(t, "PreferUnrevoked", impl.PreferUnrevoked, []impl.Revocation{x}, worldPaths(), 50)
	expectPure(t, "Affects", impl.Affects, longPath(), x)
	expectPure(t, "EncodeRevocation", impl.EncodeRevocation, x)
	expectPure(t, "DecodeRevocation", impl.DecodeRevocation, impl.EncodeRevocation(x))
}
