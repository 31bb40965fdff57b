package tests

import (
	"math"
	"math/rand"
	"slices"
	"testing"

	"loop.example/g00505/impl"
)

func TestReservationConstants(t *testing.T) {
	expectInts(t, "limits", []int{impl.MaxReservations, impl.MaxRate}, 40, 20)
}

// lease returns a reservation until 60 at interface 1 of AS 0.
func lease(id int, rate int) impl.Reservation {
	return impl.Reservation{ID: id, AS: 0, Interface: 1, Rate: rate, Until: 60}
}

// leaseAt returns a reservation at another interface and until another time.
func leaseAt(id int, r int, iface int, rate int, until int) impl.Reservation {
	return impl.Reservation{ID: id, AS: r, Interface: iface, Rate: rate, Until: until}
}

// invalidReservations have one field out of its range each.
func invalidReservations() []impl.Reservation {
	return []impl.Reservation{
		{}, leaseAt(0, 0, 1, 1, 60), leaseAt(-1, 0, 1, 1, 60), leaseAt(impl.MaxSeq+1, 0, 1, 1, 60), leaseAt(1, -1, 1, 1, 60), leaseAt(1, 8, 1, 1, 60), leaseAt(1, 0, 0, 1, 60), leaseAt(1, 0, 7, 1, 60), leaseAt(1, 0, -1, 1, 60),
		leaseAt(1, 0, 1, 0, 60), leaseAt(1, 0, 1, -1, 60), leaseAt(1, 0, 1, 21, 60), leaseAt(1, 0, 1, math.MinInt, 60), leaseAt(1, 0, 1, 1, impl.MaxTime+1), leaseAt(1, 0, 1, 1, math.MaxInt),
	}
}

// fill returns n reservations with different IDs at the other interfaces of AS 0.
func fill(n int) []impl.Reservation {
	l := []impl.Reservation{}
	for i := range n {
		l = append(l, leaseAt(100+i, 0, 2+i%5, 1, 60))
	}
	return l
}

func TestValidReservation(t *testing.T) {
	fields := []struct {
		set      func(x *impl.Reservation, n int)
		from, to int
	}{
		{func(x *impl.Reservation, n int) { x.ID = n }, 1, impl.MaxSeq},
		{func(x *impl.Reservation, n int) { x.AS = n }, 0, 7},
		{func(x *impl.Reservation, n int) { x.Interface = n }, 1, 6},
		{func(x *impl.Reservation, n int) { x.Rate = n }, 1, 20},
		{func(x *impl.Reservation, n int) { x.Until = n }, 0, impl.MaxTime},
	}
	for i, f := range fields {
		for n, want := range map[int]bool{f.from - 1: false, f.from: true, f.to: true, f.to + 1: false, math.MinInt: false, math.MaxInt: false} {
			x := lease(5, 6)
			f.set(&x, n)
			if ok := impl.ValidReservation(x); ok != want {
				t.Errorf("ValidReservation with %d in field %d = %v", n, i, ok)
			}
		}
	}
	for _, x := range invalidReservations() {
		expectBool(t, "ValidReservation", impl.ValidReservation(x), false)
	}
}

func TestReservedRate(t *testing.T) {
	l := []impl.Reservation{leaseAt(1, 0, 1, 3, 60), leaseAt(2, 0, 1, 5, 70), leaseAt(1, 0, 2, 7, 60), leaseAt(1, 1, 1, 9, 60), leaseAt(1, 0, 1, 11, 65), leaseAt(3, -1, 99, 13, -5)}
	for now, want := range map[int]int{math.MinInt: 19, 0: 19, 59: 19, 60: 19, 61: 16, 65: 16, 66: 5, 70: 5, 71: 0, math.MaxInt: 0} {
		expectInt(t, "ReservedRate at "+impl.FormatInt(now), impl.ReservedRate(l, 0, 1, now), want)
	}
	expectInts(t, "ReservedRate at other interfaces", []int{impl.ReservedRate(l, 0, 2, 60), impl.ReservedRate(l, 1, 1, 60), impl.ReservedRate(l, 1, 2, 60), impl.ReservedRate(l, 0, 3, 60), impl.ReservedRate(l, -1, 99, -5), impl.ReservedRate(l, -1, 99, -4)}, 7, 9, 0, 0, 13, 0)
	expectInt(t, "ReservedRate of nothing", impl.ReservedRate(nil, 0, 1, 0), 0)
	// The reservations need not be valid, and sums wrap around.
	wild := []impl.Reservation{lease(0, math.MaxInt), lease(-1, 2), lease(0, -50)}
	expectInt(t, "ReservedRate beyond all numbers", impl.ReservedRate(wild, 0, 1, 60), math.MaxInt-48)
	expectInt(t, "ReservedRate beyond all numbers", impl.ReservedRate(wild[:2], 0, 1, 60), math.MinInt+1)
}

func TestReservationRate(t *testing.T) {
	l := []impl.Reservation{leaseAt(1, 0, 1, 3, 60), leaseAt(2, 0, 1, 5, 70), leaseAt(1, 0, 2, 7, 60), leaseAt(1, 1, 1, 9, 60), leaseAt(1, 0, 1, 11, 65), leaseAt(0, 0, 1, -4, 60), leaseAt(-7, 0, 1, 2, 60)}
	for now, want := range map[int]int{math.MinInt: 3, 59: 3, 60: 3, 61: 11, 65: 11, 66: 0, math.MaxInt: 0} {
		expectInt(t, "ReservationRate at "+impl.FormatInt(now), impl.ReservationRate(l, 1, 0, 1, now), want)
	}
	expectInts(t, "ReservationRate", []int{impl.ReservationRate(l, 2, 0, 1, 70), impl.ReservationRate(l, 1, 0, 2, 60), impl.ReservationRate(l, 1, 1, 1, 60), impl.ReservationRate(l, 0, 0, 1, 60), impl.ReservationRate(l, -7, 0, 1, 60)}, 5, 7, 9, -4, 2)
	expectInts(t, "ReservationRate of none", []int{impl.ReservationRate(l, 2, 0, 2, 60), impl.ReservationRate(l, 2, 1, 1, 60), impl.ReservationRate(l, 3, 0, 1, 60), impl.ReservationRate(nil, 1, 0, 1, 60), impl.ReservationRate(l, 1, 0, 3, 60)}, 0, 0, 0, 0, 0)
}

// modelAdmit admits by the words of the document.
func modelAdmit(l []impl.Reservation, x impl.Reservation, capacity int, now int) ([]impl.Reservation, bool) {
	m, sum := []impl.Reservation{}, x.Rate
	for _, y := range l {
		if y.ID == x.ID && y.AS == x.AS && y.Interface == x.Interface {
			continue
		}
		m = append(m, y)
		if y.AS == x.AS && y.Interface == x.Interface && y.Until >= now {
			sum += y.Rate
		}
	}
	m = append(m, x)
	if !impl.ValidReservation(x) || x.Until < now || sum > capacity || len(m) > 40 {
		return l, false
	}
	return m, true
}

func expectAdmitted(t *testing.T, what string, l []impl.Reservation, x impl.Reservation, capacity int, now int, want []impl.Reservation) {
	t.Helper()
	if got, ok := impl.Admit(l, x, capacity, now); !ok || !same(got, want) {
		t.Errorf("Admit %s = %+v, %v; want %+v, true", what, got, ok, want)
	}
}

func expectNotAdmitted(t *testing.T, what string, l []impl.Reservation, x impl.Reservation, capacity int, now int) {
	t.Helper()
	if got, ok := impl.Admit(l, x, capacity, now); ok || !same(got, l) {
		t.Errorf("Admit %s = %+v, %v; want %+v, false", what, got, ok, l)
	}
}

func TestAdmit(t *testing.T) {
	expectAdmitted(t, "the first one", nil, lease(1, 3), 8, 50, []impl.Reservation{lease(1, 3)})
	expectAdmitted(t, "at exactly the capacity", nil, lease(1, 8), 8, 50, []impl.Reservation{lease(1, 8)})
	expectNotAdmitted(t, "beyond the capacity", nil, lease(1, 9), 8, 50)
	l := []impl.Reservation{lease(1, 3), leaseAt(9, 0, 2, 8, 60)}
	expectAdmitted(t, "at exactly the capacity", l, lease(2, 5), 8, 50, append(slices.Clone(l), lease(2, 5)))
	expectNotAdmitted(t, "beyond the capacity", l, lease(2, 6), 8, 50)
	expectAdmitted(t, "at another interface", l, leaseAt(2, 1, 1, 8, 60), 8, 50, append(slices.Clone(l), leaseAt(2, 1, 1, 8, 60)))
	expectNotAdmitted(t, "at the full interface", l, leaseAt(2, 0, 2, 1, 60), 8, 50)
	for _, x := range invalidReservations() {
		expectNotAdmitted(t, "of an invalid one", l, x, 100, 50)
		expectNotAdmitted(t, "of an invalid one", nil, x, 100, -100)
	}
	for now, want := range map[int]bool{0: true, 59: true, 60: true, 61: false, impl.MaxTime: false, math.MaxInt: false, math.MinInt: true} {
		_, ok := impl.Admit(nil, lease(1, 3), 8, now)
		expectBool(t, "Admit at "+impl.FormatInt(now), ok, want)
	}
	for _, capacity := range []int{0, -1, 2, math.MinInt} {
		expectNotAdmitted(t, "with a small capacity", nil, lease(1, 3), capacity, 50)
	}
	// What has expired does not count, but stays.
	expectAdmitted(t, "behind one that has expired", l, leaseAt(2, 0, 1, 8, 70), 8, 61, append(slices.Clone(l), leaseAt(2, 0, 1, 8, 70)))
	expectNotAdmitted(t, "behind one that has not", l, leaseAt(2, 0, 1, 8, 70), 8, 60)
}

func TestAdmitOfRenewals(t *testing.T) {
	l := []impl.Reservation{lease(1, 3), lease(2, 5), leaseAt(1, 0, 2, 6, 60), leaseAt(1, 1, 1, 7, 60)}
	rest := l[1:]
	for rate := 1; rate <= 3; rate++ {
		for _, until := range []int{50, 60, 90} {
			x := leaseAt(1, 0, 1, rate, until)
			expectAdmitted(t, "of a renewed one", l, x, 8, 50, append(slices.Clone(rest), x))
		}
	}
	expectNotAdmitted(t, "of a renewed one with too great a rate", l, lease(1, 4), 8, 50)
	expectAdmitted(t, "of a renewed one with a greater rate", l, lease(1, 4), 9, 50, append(slices.Clone(rest), lease(1, 4)))
	expectNotAdmitted(t, "of a renewed one that has expired", l, leaseAt(1, 0, 1, 1, 49), 8, 50)
	// All old ones are removed, expired or not.
	many := []impl.Reservation{lease(1, 3), lease(2, 1), leaseAt(1, 0, 1, 2, 10), lease(1, 2), leaseAt(1, 0, 2, 1, 60), lease(1, 3)}
	expectAdmitted(t, "of one that was there several times", many, lease(1, 7), 8, 50, []impl.Reservation{lease(2, 1), leaseAt(1, 0, 2, 1, 60), lease(1, 7)})
	expectNotAdmitted(t, "of one that was there several times", many, lease(1, 8), 8, 50)
}

func TestAdmitUpToMaxReservations(t *testing.T) {
	for n := 37; n <= 43; n++ {
		l, x := fill(n), lease(1, 3)
		if n < 40 {
			expectAdmitted(t, "into the list", l, x, 20, 50, append(slices.Clone(l), x))
		} else {
			expectNotAdmitted(t, "into a full list", l, x, 20, 50)
		}
		// A renewal makes room for itself.
		renewed := l[5]
		renewed.Until = 90
		if n <= 40 {
			expectAdmitted(t, "of a renewed one", l, renewed, 20, 50, append(slices.Delete(slices.Clone(l), 5, 6), renewed))
		} else {
			expectNotAdmitted(t, "of a renewed one", l, renewed, 20, 50)
		}
	}
	twice := append(fill(39), lease(1, 1), lease(1, 2))
	expectAdmitted(t, "that makes more room", twice, lease(1, 3), 20, 50, append(fill(39), lease(1, 3)))
	// Expired ones take room, too.
	expired := fill(40)
	for i := range expired {
		expired[i].Until = 3
	}
	expectNotAdmitted(t, "into a list of expired ones", expired, lease(1, 3), 20, 50)
}

func TestAdmitWithSumsThatWrapAround(t *testing.T) {
	wild := []impl.Reservation{lease(7, math.MaxInt)}
	expectAdmitted(t, "beyond all numbers", wild, lease(1, 1), -5, 50, append(slices.Clone(wild), lease(1, 1)))
	expectNotAdmitted(t, "beyond all numbers", wild, lease(7, 6), 5, 50)
	expectAdmitted(t, "below 0", []impl.Reservation{lease(7, -30)}, lease(1, 20), -10, 50, []impl.Reservation{lease(7, -30), lease(1, 20)})
}

func TestRelease(t *testing.T) {
	l := []impl.Reservation{lease(1, 3), lease(2, 5), leaseAt(1, 5, 2, 6, 1), leaseAt(-3, 1, 1, 7, 60), lease(1, 3)}
	expectSame(t, "Release", impl.Release(l, 1), []impl.Reservation{l[1], l[3]})
	expectSame(t, "Release", impl.Release(l, 2), []impl.Reservation{l[0], l[2], l[3], l[4]})
	expectSame(t, "Release", impl.Release(l, -3), []impl.Reservation{l[0], l[1], l[2], l[4]})
	for _, id := range []int{0, 3, -1, math.MaxInt} {
		expectSame(t, "Release of none", impl.Release(l, id), l)
	}
	expectSame(t, "Release of nothing", impl.Release(nil, 1), nil)
}

func TestActiveReservations(t *testing.T) {
	l := []impl.Reservation{leaseAt(1, 0, 1, 3, 60), leaseAt(2, 0, 1, 5, 70), leaseAt(0, 99, 2, -7, 50), leaseAt(1, 1, 1, 9, 60), leaseAt(4, 1, 1, 9, -1)}
	for now, want := range map[int][]int{math.MinInt: {0, 1, 2, 3, 4}, -1: {0, 1, 2, 3, 4}, 0: {0, 1, 2, 3}, 50: {0, 1, 2, 3}, 51: {0, 1, 3}, 60: {0, 1, 3}, 61: {1}, 70: {1}, 71: {}} {
		active := []impl.Reservation{}
		for _, i := range want {
			active = append(active, l[i])
		}
		expectSame(t, "ActiveReservations at "+impl.FormatInt(now), impl.ActiveReservations(l, now), active)
	}
}

func TestValidReservations(t *testing.T) {
	l := []impl.Reservation{lease(1, 3), lease(2, 5), leaseAt(1, 0, 2, 8, 60), leaseAt(3, 5, 6, 8, 40)}
	for capacity, want := range map[int]bool{8: true, 9: true, 20: true, 7: false, 0: false, -1: false, math.MaxInt: true} {
		expectBool(t, "ValidReservations with the capacity "+impl.FormatInt(capacity), impl.ValidReservations(l, capacity, 50), want)
	}
	// What has expired counts no more, but its interface occurs.
	expectBool(t, "ValidReservations of expired ones", impl.ValidReservations(l, 0, 61), true)
	expectBool(t, "ValidReservations of expired ones", impl.ValidReservations(l, -1, 61), false)
	expectBool(t, "ValidReservations of expired ones", impl.ValidReservations(l, 7, 60), false)
	expectBool(t, "ValidReservations of none", impl.ValidReservations(nil, -1, 50), true)
	for i := range 5 {
		for _, x := range invalidReservations() {
			expectBool(t, "ValidReservations with an invalid one", impl.ValidReservations(slices.Insert(slices.Clone(l), i, x), 100, 50), false)
		}
		for _, x := range l {
			x.Rate, x.Until = 1, 10
			expectBool(t, "ValidReservations with one twice", impl.ValidReservations(slices.Insert(slices.Clone(l), i, x), 100, 50), false)
			x.ID = 77
			expectBool(t, "ValidReservations with another one", impl.ValidReservations(slices.Insert(slices.Clone(l), i, x), 100, 50), true)
		}
	}
	for n := 38; n <= 42; n++ {
		expectBool(t, "ValidReservations of many", impl.ValidReservations(fill(n), 20, 50), n <= 40)
	}
	// The capacity may be exceeded at any of the interfaces, and only for some time.
	for i, x := range l {
		m := slices.Clone(l)
		m[i].Rate, m[i].Until = 20, 55
		expectBool(t, "ValidReservations beyond the capacity", impl.ValidReservations(m, 19, 55), false)
		expectBool(t, "ValidReservations beyond the capacity before", impl.ValidReservations(m, 19, 56), true)
		m[i] = x
		expectBool(t, "ValidReservations", impl.ValidReservations(m, 19, 55), true)
	}
}

func TestFreeRate(t *testing.T) {
	l := []impl.Reservation{lease(1, 3), lease(2, 5), leaseAt(1, 0, 2, 7, 70)}
	for capacity, want := range map[int]int{20: 12, 9: 1, 8: 0, 7: 0, 0: 0, -1: 0, -100: 0} {
		expectInt(t, "FreeRate with the capacity "+impl.FormatInt(capacity), impl.FreeRate(l, capacity, 0, 1, 60), want)
	}
	expectInts(t, "FreeRate", []int{impl.FreeRate(l, 10, 0, 1, 61), impl.FreeRate(l, 10, 0, 2, 61), impl.FreeRate(l, 10, 0, 2, 71), impl.FreeRate(l, 10, 1, 1, 50), impl.FreeRate(nil, 10, -5, 99, 50), impl.FreeRate(nil, -10, 0, 1, 50)}, 10, 3, 10, 10, 10, 0)
	expectInt(t, "FreeRate below 0", impl.FreeRate([]impl.Reservation{lease(1, -4)}, 10, 0, 1, 60), 14)
	expectInt(t, "FreeRate beyond all numbers", impl.FreeRate([]impl.Reservation{lease(1, -1)}, math.MaxInt, 0, 1, 60), 0)
	expectInt(t, "FreeRate beyond all numbers", impl.FreeRate([]impl.Reservation{lease(1, 1)}, math.MinInt, 0, 1, 60), math.MaxInt)
}

func randomReservation(r *rand.Rand) impl.Reservation {
	return leaseAt(1+r.Intn(4), r.Intn(3), 1+r.Intn(2), 1+r.Intn(5), r.Intn(60))
}

// The reservations at an interface never exceed its capacity.
func TestReservationsNeverExceedTheCapacity(t *testing.T) {
	r := rand.New(rand.NewSource(55))
	admitted, rejected := 0, 0
	for range 100 {
		l, capacity, now := []impl.Reservation{}, 1+r.Intn(20), 0
		for range 120 {
			now += r.Intn(3) / 2
			switch r.Intn(12) {
			case 0:
				l = impl.Release(l, 1+r.Intn(4))
			case 1:
				l = impl.ActiveReservations(l, now)
			default:
				x := randomReservation(r)
				want, accepted := modelAdmit(l, x, capacity, now)
				got, ok := impl.Admit(l, x, capacity, now)
				if ok != accepted || !same(got, want) {
					t.Fatalf("Admit(%+v, %+v, %d, %d) = %+v, %v", l, x, capacity, now, got, ok)
				}
				l = got
				if ok {
					admitted++
				} else {
					rejected++
				}
			}
			if !impl.ValidReservations(l, capacity, now) {
				t.Fatalf("%+v is not valid with %d at %d", l, capacity, now)
			}
			for as := range 3 {
				for iface := 1; iface <= 2; iface++ {
					reserved := 0
					for _, x := range l {
						if x.AS == as && x.Interface == iface && x.Until >= now {
							reserved += x.Rate
						}
					}
					expectInt(t, "ReservedRate", impl.ReservedRate(l, as, iface, now), reserved)
					expectInt(t, "FreeRate", impl.FreeRate(l, capacity, as, iface, now), capacity-reserved)
				}
			}
		}
	}
	if admitted < 1000 || rejected < 1000 {
		t.Errorf("too few reservations: %d, %d", admitted, rejected)
	}
}

func TestReservationsShareNoMemory(t *testing.T) {
	for _, l := range [][]impl.Reservation{nil, {lease(1, 3), lease(2, 5), leaseAt(1, 0, 2, 7, 40)}, fill(40), fill(45)} {
		for _, x := range append(invalidReservations(), lease(1, 3), lease(2, 9), leaseAt(100, 0, 2, 3, 70)) {
			expectPure(t, "Admit", impl.Admit, l, x, 10, 50)
		}
		expectPure(t, "Release", impl.Release, l, 1)
		expectPure(t, "Release", impl.Release, l, 77)
		expectPure(t, "ActiveReservations", impl.ActiveReservations, l, 50)
		expectPure(t, "ActiveReservations", impl.ActiveReservations, l, 0)
		expectPure(t, "ValidReservations", impl.ValidReservations, l, 10, 50)
		expectPure(t, "ReservedRate", impl.ReservedRate, l, 0, 1, 50)
		expectPure(t, "ReservationRate", impl.ReservationRate, l, 1, 0, 1, 50)
		expectPure(t, "FreeRate", impl.FreeRate, l, 10, 0, 1, 50)
	}
}
