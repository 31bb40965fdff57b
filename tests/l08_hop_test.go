package tests

import (
	"math"
	"math/rand"
	"testing"

	"loop.example/g00505/impl"
)

// hopChanges changes one field of a hop each; the number says by how much.
func hopChanges() map[string]func(h *impl.Hop, by int) {
	return map[string]func(h *impl.Hop, by int){
		"AS":      func(h *impl.Hop, by int) { h.AS += by },
		"Ingress": func(h *impl.Hop, by int) { h.Ingress += by },
		"Egress":  func(h *impl.Hop, by int) { h.Egress += by },
		"Expiry":  func(h *impl.Hop, by int) { h.Expiry += by },
		"MAC":     func(h *impl.Hop, by int) { h.MAC += by },
	}
}

func expectValidHop(t *testing.T, h impl.Hop, want bool) {
	t.Helper()
	if ok := impl.ValidHop(h); ok != want {
		t.Errorf("ValidHop(%+v) = %v", h, ok)
	}
}

// randomHop returns a valid hop.
func randomHop(r *rand.Rand) impl.Hop {
	h := impl.Hop{AS: r.Intn(impl.MaxASes), Ingress: r.Intn(7), Egress: r.Intn(7), Expiry: r.Intn(impl.MaxTime + 1), MAC: r.Intn(impl.Prime)}
	if h.Ingress == h.Egress {
		h.Egress = (h.Ingress + 1) % 7
	}
	return h
}

func TestMaxTime(t *testing.T) {
	expectInt(t, "MaxTime", impl.MaxTime, 1000000)
}

func TestValidHop(t *testing.T) {
	base := impl.Hop{AS: 2, Ingress: 1, Egress: 2, Expiry: 50, MAC: 9}
	expectValidHop(t, base, true)
	expectValidHop(t, impl.Hop{Egress: 1}, true)
	expectValidHop(t, impl.Hop{Ingress: 1}, true)
	expectValidHop(t, impl.Hop{AS: 7, Ingress: 6, Egress: 5, Expiry: 1000000, MAC: 2147483646}, true)
	expectValidHop(t, impl.Hop{AS: 7, Ingress: 5, Egress: 6, Expiry: 1000000, MAC: 2147483646}, true)
	ranges := []struct {
		set      func(h *impl.Hop, n int)
		from, to int
	}{
		{func(h *impl.Hop, n int) { h.AS = n }, 0, 7},
		{func(h *impl.Hop, n int) { h.Ingress = n; h.Egress = 3 }, 4, 6},
		{func(h *impl.Hop, n int) { h.Ingress = n; h.Egress = 3 }, 0, 2},
		{func(h *impl.Hop, n int) { h.Ingress = 3; h.Egress = n }, 4, 6},
		{func(h *impl.Hop, n int) { h.Ingress = 3; h.Egress = n }, 0, 2},
		{func(h *impl.Hop, n int) { h.Expiry = n }, 0, impl.MaxTime},
		{func(h *impl.Hop, n int) { h.MAC = n }, 0, impl.Prime - 1},
	}
	for _, c := range ranges {
		for n, want := range map[int]bool{c.from: true, c.to: true, c.from - 1: false, c.to + 1: false} {
			h := base
			c.set(&h, n)
			expectValidHop(t, h, want)
		}
		for _, n := range []int{math.MinInt, math.MaxInt, -1 << 32} {
			h := base
			c.set(&h, n)
			expectValidHop(t, h, false)
		}
	}
}

func TestHopsWithEqualInterfacesAreNotValid(t *testing.T) {
	expectValidHop(t, impl.Hop{}, false)
	for i := -1; i <= 7; i++ {
		expectValidHop(t, impl.Hop{AS: 1, Ingress: i, Egress: i, Expiry: 5, MAC: 5}, false)
	}
	for i := range 7 {
		for k := range 7 {
			expectValidHop(t, impl.Hop{Ingress: i, Egress: k}, i != k)
		}
	}
}

func TestHopMAC(t *testing.T) {
	h := impl.Hop{AS: 2, Ingress: 1, Egress: 4, Expiry: 50, MAC: 12345}
	expectInt(t, "HopMAC", impl.HopMAC(13, 7, 100, h), modelDigest([]int{13, 7, 100, 2, 1, 4, 50, 13}))
	expectInt(t, "HopMAC", impl.HopMAC(13, 7, 100, h), impl.ComputeMAC(13, []int{7, 100, 2, 1, 4, 50}))
	h.MAC = 0
	expectInt(t, "HopMAC without a MAC", impl.HopMAC(13, 7, 100, h), modelDigest([]int{13, 7, 100, 2, 1, 4, 50, 13}))
	wild := impl.Hop{AS: math.MinInt, Ingress: math.MaxInt, Egress: -1, Expiry: impl.Prime, MAC: -9}
	want := modelDigest([]int{-3, math.MaxInt, math.MinInt, math.MinInt, math.MaxInt, -1, impl.Prime, -3})
	expectInt(t, "HopMAC of unusual values", impl.HopMAC(-3, math.MaxInt, math.MinInt, wild), want)
}

func TestAuthenticateHop(t *testing.T) {
	h := impl.Hop{AS: 2, Ingress: 1, Egress: 4, Expiry: 50, MAC: 12345}
	want := h
	want.MAC = modelDigest([]int{13, 7, 100, 2, 1, 4, 50, 13})
	if g := impl.AuthenticateHop(13, 7, 100, h); g != want {
		t.Errorf("AuthenticateHop = %+v; want %+v", g, want)
	}
	wild := impl.Hop{AS: -1, Ingress: 9, Egress: 9, Expiry: -5, MAC: -1}
	want = wild
	want.MAC = modelDigest([]int{0, -1, -2, -1, 9, 9, -5, 0})
	if g := impl.AuthenticateHop(0, -1, -2, wild); g != want {
		t.Errorf("AuthenticateHop of an invalid hop = %+v; want %+v", g, want)
	}
}

func TestHopsVerifyAsTheyWereAuthenticated(t *testing.T) {
	r := rand.New(rand.NewSource(10))
	p := world()
	for range 2000 {
		ts, beta := r.Intn(impl.MaxTime+1), r.Intn(impl.Prime)
		plain := randomHop(r)
		h := impl.AuthenticateHop(p.ASes[plain.AS].Key, ts, beta, plain)
		if !impl.VerifyHop(p, ts, beta, h) {
			t.Fatalf("%+v does not verify", h)
		}
		for _, by := range []int{-3, -1, 1, 2} {
			if impl.VerifyHop(p, ts+by, beta, h) || impl.VerifyHop(p, ts, beta+by, h) {
				t.Fatalf("%+v verifies with another timestamp or beta", h)
			}
			for name, change := range hopChanges() {
				g := h
				change(&g, by)
				if impl.VerifyHop(p, ts, beta, g) {
					t.Fatalf("%+v verifies with another %s: %+v", h, name, g)
				}
			}
			q := cloneTopology(p)
			q.ASes[h.AS].Key += by
			if impl.VerifyHop(q, ts, beta, h) {
				t.Fatalf("%+v verifies with another key", h)
			}
		}
	}
}

// The keys of other ASes play no part.
func TestVerifyHopTakesTheKeyOfItsAS(t *testing.T) {
	p := world()
	for as := range p.ASes {
		for other := range p.ASes {
			h := impl.AuthenticateHop(p.ASes[other].Key, 5, 6, impl.Hop{AS: as, Egress: 1, Expiry: 9})
			expectBool(t, "VerifyHop", impl.VerifyHop(p, 5, 6, h), as == other)
		}
	}
}

// A hop whose MAC is right does not verify if it is not valid, or if its AS does not exist.
func TestVerifyHopOfInvalidHops(t *testing.T) {
	p := largeTopology()
	invalid := []impl.Hop{
		{AS: 8, Egress: 1}, {AS: 11, Egress: 1}, {AS: 1}, {AS: 1, Ingress: 2, Egress: 2}, {AS: 1, Ingress: 7}, {AS: 1, Egress: 7}, {AS: 1, Ingress: -1}, {AS: 1, Egress: -1},
		{AS: 1, Egress: 1, Expiry: -1}, {AS: 1, Egress: 1, Expiry: impl.MaxTime + 1},
	}
	for _, h := range invalid {
		h = impl.AuthenticateHop(p.ASes[h.AS].Key, 5, 6, h)
		expectBool(t, "VerifyHop of "+impl.FormatHop(p, h), impl.VerifyHop(p, 5, 6, h), false)
	}
	small := family()
	for as := range 8 {
		h := impl.AuthenticateHop(10+as+1, 5, 6, impl.Hop{AS: as, Egress: 1})
		expectBool(t, "VerifyHop", impl.VerifyHop(small, 5, 6, h), as < 5)
		expectBool(t, "VerifyHop without ASes", impl.VerifyHop(impl.Topology{}, 5, 6, h), false)
	}
	for _, as := range []int{-1, 8, math.MinInt, math.MaxInt} {
		expectBool(t, "VerifyHop of no AS", impl.VerifyHop(small, 5, 6, impl.Hop{AS: as, Egress: 1}), false)
	}
}

// A MAC that is equal modulo the prime is another one.
func TestVerifyHopComparesMACsAsTheyAre(t *testing.T) {
	p := world()
	h := impl.AuthenticateHop(103, 5, 6, impl.Hop{AS: 2, Egress: 1})
	for _, by := range []int{impl.Prime, -impl.Prime} {
		g := h
		g.MAC += by
		expectBool(t, "VerifyHop", impl.VerifyHop(p, 5, 6, g), false)
	}
}

func TestHopValidAt(t *testing.T) {
	cases := []struct {
		expiry, now int
		want        bool
	}{
		{50, 49, true}, {50, 50, true}, {50, 51, false}, {0, 0, true}, {0, 1, false}, {0, -1, true}, {-5, -5, true}, {-5, -4, false},
		{impl.MaxTime, impl.MaxTime, true}, {impl.MaxTime, impl.MaxTime + 1, false}, {math.MaxInt, math.MaxInt, true}, {math.MinInt, math.MinInt, true}, {math.MinInt, math.MaxInt, false}, {math.MaxInt, math.MinInt, true},
	}
	for _, c := range cases {
		if ok := impl.HopValidAt(impl.Hop{Expiry: c.expiry}, c.now); ok != c.want {
			t.Errorf("HopValidAt(%d, %d) = %v", c.expiry, c.now, ok)
		}
	}
}

func TestFormatHop(t *testing.T) {
	p := world()
	expectText(t, "FormatHop", impl.FormatHop(p, impl.Hop{AS: 2, Ingress: 1, Egress: 6, Expiry: 8, MAC: 9}), "1-2:1>6")
	expectText(t, "FormatHop of a beginning", impl.FormatHop(p, impl.Hop{AS: 7, Egress: 3}), "2-7:0>3")
	expectText(t, "FormatHop of an end", impl.FormatHop(p, impl.Hop{AS: 4, Ingress: 2}), "0-4:2>0")
	expectText(t, "FormatHop of no AS", impl.FormatHop(p, impl.Hop{AS: 8, Ingress: 2, Egress: 1}), "?:2>1")
	expectText(t, "FormatHop of AS -1", impl.FormatHop(p, impl.Hop{AS: -1, Ingress: -2, Egress: 70}), "?:-2>70")
}

func TestEqualHops(t *testing.T) {
	h := impl.Hop{AS: 2, Ingress: 1, Egress: 4, Expiry: 50, MAC: 12345}
	expectBool(t, "EqualHops", impl.EqualHops(h, h), true)
	expectBool(t, "EqualHops of zero hops", impl.EqualHops(impl.Hop{}, impl.Hop{}), true)
	for name, change := range hopChanges() {
		for _, by := range []int{-1, 1, impl.Prime} {
			g := h
			change(&g, by)
			expectBool(t, "EqualHops with another "+name, impl.EqualHops(h, g), false)
			expectBool(t, "EqualHops with another "+name, impl.EqualHops(g, h), false)
		}
	}
}
