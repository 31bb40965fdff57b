package tests

import (
	"math"
	"math/rand"
	"testing"

	"loop.example/g00505/impl"
)

// segmentOf returns a segment with hops of these ASes and nothing else.
func segmentOf(ases ...int) impl.Segment {
	s := impl.Segment{}
	for _, r := range ases {
		s.Hops = append(s.Hops, impl.Hop{AS: r})
	}
	return s
}

func expectAllowed(t *testing.T, p impl.Policy, s impl.Segment, out int, want bool) {
	t.Helper()
	if ok := impl.Allows(p, s, out); ok != want {
		t.Errorf("Allows(%+v, %v, %d) = %v", p, impl.SegmentASes(s), out, ok)
	}
}

// randomPolicy returns a valid policy.
func randomPolicy(r *rand.Rand) impl.Policy {
	return impl.Policy{
		MaxLength:        1 + r.Intn(impl.MaxHops),
		DeniedASes:       r.Intn(256) & r.Intn(256) & r.Intn(256),
		ClosedInterfaces: r.Intn(128) & r.Intn(128),
		Lifetime:         1 + r.Intn(1000),
	}
}

func TestValidPolicy(t *testing.T) {
	base := impl.Policy{MaxLength: 4, DeniedASes: 4, ClosedInterfaces: 2, Lifetime: 50}
	expectBool(t, "ValidPolicy", impl.ValidPolicy(base), true)
	expectBool(t, "ValidPolicy of the zero policy", impl.ValidPolicy(impl.Policy{}), false)
	fields := []struct {
		set      func(p *impl.Policy, n int)
		from, to int
	}{
		{func(p *impl.Policy, n int) { p.MaxLength = n }, 1, 8},
		{func(p *impl.Policy, n int) { p.DeniedASes = n }, 0, 65535},
		{func(p *impl.Policy, n int) { p.ClosedInterfaces = n }, 0, 65535},
		{func(p *impl.Policy, n int) { p.Lifetime = n }, 1, 1000},
	}
	for i, f := range fields {
		for n, want := range map[int]bool{f.from: true, f.to: true, f.from - 1: false, f.to + 1: false, math.MinInt: false, math.MaxInt: false} {
			p := base
			f.set(&p, n)
			if ok := impl.ValidPolicy(p); ok != want {
				t.Errorf("ValidPolicy with %d in field %d = %v", n, i, ok)
			}
		}
	}
}

func TestDefaultPolicy(t *testing.T) {
	if p := impl.DefaultPolicy(); p != (impl.Policy{MaxLength: 8, Lifetime: 100}) || !impl.ValidPolicy(p) {
		t.Errorf("DefaultPolicy = %+v", p)
	}
}

func TestAllowsUpToMaxLength(t *testing.T) {
	long := []int{0, 1, 2, 3, 4, 5, 6, 7, 0, 1}
	for length := range 11 {
		p := impl.Policy{MaxLength: length, Lifetime: 5}
		for n := range 11 {
			expectAllowed(t, p, segmentOf(long[:n]...), 1, n < length)
		}
	}
	expectAllowed(t, impl.Policy{MaxLength: -1, Lifetime: 5}, impl.Segment{}, 1, false)
	expectAllowed(t, impl.Policy{MaxLength: math.MinInt, Lifetime: 5}, impl.Segment{}, 1, false)
	expectAllowed(t, impl.Policy{MaxLength: math.MaxInt, Lifetime: 5}, segmentOf(long...), 1, true)
}

func TestAllowsNoDeniedASes(t *testing.T) {
	p := impl.Policy{MaxLength: 8, DeniedASes: impl.MakeSet([]int{2, 5, 0}), Lifetime: 5}
	expectAllowed(t, p, segmentOf(1, 3, 4), 1, true)
	expectAllowed(t, p, segmentOf(), 1, true)
	for _, s := range []impl.Segment{segmentOf(2), segmentOf(2, 3, 4), segmentOf(1, 5, 4), segmentOf(1, 3, 0), segmentOf(5, 2)} {
		expectAllowed(t, p, s, 1, false)
	}
	// No set contains these.
	expectAllowed(t, p, segmentOf(-1, 16, 18, 64, 66, math.MinInt, math.MaxInt), 1, true)
	p.DeniedASes = fullSet
	expectAllowed(t, p, segmentOf(15), 1, false)
	expectAllowed(t, p, segmentOf(16), 1, true)
}

func TestAllowsNoClosedInterfaces(t *testing.T) {
	p := impl.Policy{MaxLength: 8, ClosedInterfaces: impl.MakeSet([]int{0, 2, 6, 15}), Lifetime: 5}
	for out := -2; out < 20; out++ {
		expectAllowed(t, p, segmentOf(1), out, out != 0 && out != 2 && out != 6 && out != 15)
	}
	for _, out := range strange() {
		expectAllowed(t, p, segmentOf(1), out, true)
	}
}

// A set that is not valid contains nothing; the other parts of the policy still count.
func TestAllowsWithInvalidPolicies(t *testing.T) {
	for _, no := range noSets() {
		p := impl.Policy{MaxLength: 2, DeniedASes: no, ClosedInterfaces: no, Lifetime: -5}
		for i := range 7 {
			expectAllowed(t, p, segmentOf(i), i, true)
			expectAllowed(t, p, segmentOf(i, 1), i, false)
		}
		p.DeniedASes = 2
		expectAllowed(t, p, segmentOf(1), 1, false)
		p.DeniedASes, p.ClosedInterfaces = no, 2
		expectAllowed(t, p, segmentOf(1), 1, false)
		expectAllowed(t, p, segmentOf(1), 2, true)
	}
}

func TestExpiryFor(t *testing.T) {
	cases := []struct{ lifetime, ts, want int }{
		{50, 10, 60}, {1, 0, 1}, {1000, 0, 1000}, {100, impl.MaxTime - 101, impl.MaxTime - 1}, {100, impl.MaxTime - 100, impl.MaxTime}, {100, impl.MaxTime - 99, impl.MaxTime},
		{100, impl.MaxTime, impl.MaxTime}, {100, impl.MaxTime + 1, impl.MaxTime}, {100, -200, -100}, {100, -100, 0}, {0, 5, 5}, {-7, 5, -2},
		{100, math.MinInt, math.MinInt + 100},
		// Beyond the range of int, sums wrap around.
		{100, math.MaxInt, math.MinInt + 99}, {1, math.MaxInt, math.MinInt}, {1, math.MaxInt - 1, impl.MaxTime}, {-1, math.MinInt, impl.MaxTime},
		{math.MaxInt, math.MaxInt, -2}, {math.MinInt, math.MinInt, 0},
	}
	for _, c := range cases {
		if n := impl.ExpiryFor(impl.Policy{Lifetime: c.lifetime}, c.ts); n != c.want {
			t.Errorf("ExpiryFor with %d of %d = %d; want %d", c.lifetime, c.ts, n, c.want)
		}
	}
}

func TestFormatPolicy(t *testing.T) {
	cases := []struct {
		p    impl.Policy
		want string
	}{
		{impl.Policy{MaxLength: 4, DeniedASes: 4, ClosedInterfaces: 2, Lifetime: 50}, "4 50 d2 s1"},
		{impl.DefaultPolicy(), "8 100 d s"},
		{impl.Policy{}, "0 0 d s"},
		{impl.Policy{MaxLength: 1, DeniedASes: 1, Lifetime: 1000}, "1 1000 d0 s"},
		{impl.Policy{MaxLength: 1, ClosedInterfaces: 64, Lifetime: 1}, "1 1 d s6"},
		{impl.Policy{MaxLength: 8, DeniedASes: 1 + 2 + 128, ClosedInterfaces: 8 + 32, Lifetime: 7}, "8 7 d0,1,7 s3,5"},
		{impl.Policy{MaxLength: -8, DeniedASes: 32768 + 1024, ClosedInterfaces: -1, Lifetime: -7}, "-8 -7 d10,15 s"},
		{impl.Policy{MaxLength: 99, DeniedASes: 65536, ClosedInterfaces: 65537, Lifetime: 1001}, "99 1001 d s"},
		{impl.Policy{MaxLength: 2, DeniedASes: 65535, ClosedInterfaces: 65534, Lifetime: 3}, "2 3 d0,1,2,3,4,5,6,7,8,9,10,11,12,13,14,15 s1,2,3,4,5,6,7,8,9,10,11,12,13,14,15"},
	}
	for _, c := range cases {
		expectText(t, "FormatPolicy", impl.FormatPolicy(c.p), c.want)
	}
}

func TestStricter(t *testing.T) {
	q := impl.Policy{MaxLength: 4, DeniedASes: 4, ClosedInterfaces: 2, Lifetime: 50}
	cases := []struct {
		p    impl.Policy
		want bool
	}{
		{q, true},
		{impl.Policy{MaxLength: 3, DeniedASes: 4, ClosedInterfaces: 2, Lifetime: 50}, true},
		{impl.Policy{MaxLength: 5, DeniedASes: 4, ClosedInterfaces: 2, Lifetime: 50}, false},
		{impl.Policy{MaxLength: 4, DeniedASes: 4, ClosedInterfaces: 2, Lifetime: 49}, true},
		{impl.Policy{MaxLength: 4, DeniedASes: 4, ClosedInterfaces: 2, Lifetime: 51}, false},
		{impl.Policy{MaxLength: 4, DeniedASes: 5, ClosedInterfaces: 2, Lifetime: 50}, true},
		{impl.Policy{MaxLength: 4, DeniedASes: 0, ClosedInterfaces: 2, Lifetime: 50}, false},
		{impl.Policy{MaxLength: 4, DeniedASes: 3, ClosedInterfaces: 2, Lifetime: 50}, false},
		{impl.Policy{MaxLength: 4, DeniedASes: 4, ClosedInterfaces: 3, Lifetime: 50}, true},
		{impl.Policy{MaxLength: 4, DeniedASes: 4, ClosedInterfaces: 0, Lifetime: 50}, false},
		{impl.Policy{MaxLength: 4, DeniedASes: 4, ClosedInterfaces: 5, Lifetime: 50}, false},
		{impl.Policy{MaxLength: -1, DeniedASes: fullSet, ClosedInterfaces: fullSet, Lifetime: math.MinInt}, true},
	}
	for _, c := range cases {
		if ok := impl.Stricter(c.p, q); ok != c.want {
			t.Errorf("Stricter(%+v, %+v) = %v", c.p, q, ok)
		}
	}
	expectBool(t, "Stricter than the default", impl.Stricter(q, impl.DefaultPolicy()), true)
	expectBool(t, "Stricter than another", impl.Stricter(impl.DefaultPolicy(), q), false)
}

// The union with a set that is not valid is the empty set.
func TestStricterWithInvalidSets(t *testing.T) {
	for _, no := range noSets() {
		p, q := impl.Policy{MaxLength: 4, Lifetime: 50}, impl.Policy{MaxLength: 4, Lifetime: 50}
		q.DeniedASes = no
		expectBool(t, "Stricter", impl.Stricter(p, q), true)
		expectBool(t, "Stricter", impl.Stricter(q, p), false)
		expectBool(t, "Stricter", impl.Stricter(q, q), false)
		p.DeniedASes = 1
		expectBool(t, "Stricter", impl.Stricter(p, q), false)
		p.DeniedASes, q.DeniedASes, q.ClosedInterfaces = 0, 0, no
		expectBool(t, "Stricter", impl.Stricter(p, q), true)
		expectBool(t, "Stricter", impl.Stricter(q, p), false)
		p.ClosedInterfaces = 1
		expectBool(t, "Stricter", impl.Stricter(p, q), false)
	}
}

func TestAStricterPolicyPermitsNothingMore(t *testing.T) {
	r := rand.New(rand.NewSource(16))
	permitted := 0
	for range 3000 {
		q := randomPolicy(r)
		p := q
		p.MaxLength -= r.Intn(p.MaxLength)
		p.Lifetime -= r.Intn(p.Lifetime)
		p.DeniedASes |= r.Intn(256) & r.Intn(256)
		p.ClosedInterfaces |= r.Intn(128) & r.Intn(128)
		if !impl.Stricter(p, q) || impl.Stricter(q, p) != (p == q) {
			t.Fatalf("Stricter of %+v and %+v", p, q)
		}
		for range 10 {
			s := segmentOf(r.Perm(8)[:r.Intn(8)]...)
			out, ts := r.Intn(8), r.Intn(impl.MaxTime+1)
			if impl.Allows(p, s, out) {
				permitted++
				expectAllowed(t, q, s, out, true)
			}
			if impl.ExpiryFor(p, ts) > impl.ExpiryFor(q, ts) {
				t.Fatalf("ExpiryFor of %+v and %+v", p, q)
			}
		}
	}
	if permitted < 1000 {
		t.Errorf("only %d hops were permitted", permitted)
	}
}

// Stricter is exactly what permits nothing more, for policies that are valid.
func TestAPolicyThatIsNotStricterPermitsMore(t *testing.T) {
	r := rand.New(rand.NewSource(17))
	for range 3000 {
		p, q := randomPolicy(r), randomPolicy(r)
		want := p.MaxLength <= q.MaxLength && p.Lifetime <= q.Lifetime && q.DeniedASes&^p.DeniedASes == 0 && q.ClosedInterfaces&^p.ClosedInterfaces == 0
		if ok := impl.Stricter(p, q); ok != want {
			t.Fatalf("Stricter(%+v, %+v) = %v", p, q, ok)
		}
	}
}

func TestPolicyFor(t *testing.T) {
	l := []impl.Policy{
		{MaxLength: 1, Lifetime: 1}, {MaxLength: 9, Lifetime: 5}, {MaxLength: 8, Lifetime: 1001}, {MaxLength: 3, DeniedASes: 65536, Lifetime: 4},
		{MaxLength: 3, ClosedInterfaces: -1, Lifetime: 4}, {}, {MaxLength: 2, DeniedASes: 3, ClosedInterfaces: 4, Lifetime: 1000},
	}
	for r, p := range l {
		if r != 0 && r != 6 {
			p = impl.DefaultPolicy()
		}
		if got := impl.PolicyFor(l, r); got != p {
			t.Errorf("PolicyFor(%d) = %+v; want %+v", r, got, p)
		}
	}
	for _, r := range append(strange(), 7, 8) {
		if got := impl.PolicyFor(l, r); got != impl.DefaultPolicy() {
			t.Errorf("PolicyFor(%d) = %+v", r, got)
		}
	}
	if impl.PolicyFor(nil, 0) != impl.DefaultPolicy() || impl.PolicyFor([]impl.Policy{}, 0) != impl.DefaultPolicy() {
		t.Error("PolicyFor without policies")
	}
	if impl.PolicyFor(l[:6], 6) != impl.DefaultPolicy() {
		t.Error("PolicyFor beyond the length")
	}
}

func TestPoliciesLeaveSegmentsAlone(t *testing.T) {
	mark := impl.Hop{AS: 77}
	plain := segmentOf(1, 2, 3)
	s := impl.Segment{Hops: withSpare(plain.Hops, mark)}
	impl.Allows(impl.Policy{MaxLength: 8, DeniedASes: 8}, s, 1)
	expectUntouched(t, s.Hops, plain.Hops, mark)
}
