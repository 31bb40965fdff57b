package tests

import (
	"math"
	"math/rand"
	"slices"
	"testing"

	"loop.example/g00505/impl"
)

// singleSteps are paths of a single step.
func singleSteps() []impl.Path {
	return []impl.Path{pathOfParts(onePart(impl.PaUp, 3)), pathOfParts(onePart(impl.PaUp, 3), onePart(impl.PaCore, 3), onePart(impl.PaDown, 3)), pathAlong(world(), "down1 0:0>4 4:4>0"), throughSteps("5>3>5")}
}

// leases returns a reservation for each of these steps, from those of the form "0>4>1".
func leases(text string, id int, rate int, until int) []impl.Reservation {
	l := []impl.Reservation{}
	for _, s := range stepsAlong(text) {
		l = append(l, leaseAt(id, s.AS, s.Egress, rate, until))
	}
	return l
}

func TestEgressSteps(t *testing.T) {
	expectSame(t, "EgressSteps", impl.EgressSteps(longPath()), stepsAlong("0>4>1 3>3>1 3>0>2 2>2>3 1>5>2"))
	expectSame(t, "EgressSteps without parts", impl.EgressSteps(impl.Path{}), nil)
	expectSame(t, "EgressSteps without hops", impl.EgressSteps(pathOfParts(impl.PathPart{}, impl.PathPart{})), nil)
	for _, p := range singleSteps() {
		expectSame(t, "EgressSteps of a single step", impl.EgressSteps(p), nil)
	}
	expectSame(t, "EgressSteps of two steps", impl.EgressSteps(pathOfParts(onePart(impl.PaUp, 3, 4))), stepsAlong("0>3>2"))
	expectSame(t, "EgressSteps with 0 within", impl.EgressSteps(throughSteps("0>4>1 3>5>0 2>3>0 0>0>2 1>2>0 1>1>1 1>7>1")), stepsAlong("0>4>1 0>0>2 1>1>1"))
	wild := pathOfParts(impl.PathPart{Kind: impl.PaCore, Hops: []impl.Hop{{AS: -1, Egress: -2}, {AS: 99, Ingress: 100, Egress: math.MaxInt}, {AS: 3}}})
	expectSame(t, "EgressSteps of no ASes", impl.EgressSteps(wild), []impl.Step{{AS: -1, Egress: -2}, {AS: 99, Ingress: 100, Egress: math.MaxInt}})
}

func expectReserved(t *testing.T, what string, l []impl.Reservation, id int, p impl.Path, rate int, until int, capacity int, now int, want []impl.Reservation) {
	t.Helper()
	if got, ok := impl.ReservePath(l, id, p, rate, until, capacity, now); !ok || !same(got, want) {
		t.Errorf("ReservePath %s = %+v, %v; want %+v, true", what, got, ok, want)
	}
}

func expectNotReserved(t *testing.T, what string, l []impl.Reservation, id int, p impl.Path, rate int, until int, capacity int, now int) {
	t.Helper()
	if got, ok := impl.ReservePath(l, id, p, rate, until, capacity, now); ok || !same(got, l) {
		t.Errorf("ReservePath %s = %+v, %v; want %+v, false", what, got, ok, l)
	}
}

func TestReservePath(t *testing.T) {
	p := longPath()
	all := leases("0>4>1 3>3>1 3>0>2 2>2>3 1>5>2", 5, 3, 60)
	expectReserved(t, "of the long path", nil, 5, p, 3, 60, 8, 50, all)
	expectReserved(t, "of a path of two steps", nil, 5, pathOfParts(onePart(impl.PaUp, 3, 4)), 3, 60, 3, 60, leases("0>3>2", 5, 3, 60))
	expectReserved(t, "of another ID", all, 6, p, 5, 70, 8, 50, slices.Concat(all, leases("0>4>1 3>3>1 3>0>2 2>2>3 1>5>2", 6, 5, 70)))
	expectNotReserved(t, "beyond the capacity", all, 6, p, 6, 70, 8, 50)
	// Renewed reservations come behind the others.
	other := leaseAt(5, 7, 3, 8, 60)
	expectReserved(t, "of the same ID", append([]impl.Reservation{other}, all...), 5, p, 8, 70, 8, 50, append([]impl.Reservation{other}, leases("0>4>1 3>3>1 3>0>2 2>2>3 1>5>2", 5, 8, 70)...))
	for _, bad := range []struct{ id, rate, until, now int }{{0, 3, 60, 50}, {-1, 3, 60, 50}, {impl.MaxSeq + 1, 3, 60, 50}, {5, 0, 60, 50}, {5, -3, 60, 50}, {5, 21, 60, 50}, {5, 3, 60, 61}, {5, 3, -1, -1}, {5, 3, impl.MaxTime + 1, 50}} {
		expectNotReserved(t, "that is not valid", nil, bad.id, p, bad.rate, bad.until, 100, bad.now)
		expectNotReserved(t, "that is not valid", all, bad.id, p, bad.rate, bad.until, 100, bad.now)
	}
	for _, single := range append(singleSteps(), impl.Path{}, pathOfParts(impl.PathPart{})) {
		expectNotReserved(t, "without an egress", nil, 5, single, 3, 60, 8, 50)
		expectNotReserved(t, "without an egress", all, 5, single, 3, 60, 8, 50)
	}
	expectNotReserved(t, "of ASes that do not exist", nil, 5, throughSteps("0>3>1 1>9>2 1>4>0"), 3, 60, 8, 50)
	expectNotReserved(t, "of interfaces that do not exist", nil, 5, throughSteps("0>3>1 1>6>7 1>4>0"), 3, 60, 8, 50)
	expectReserved(t, "up to MaxReservations", fill(35), 5, p, 3, 60, 20, 50, append(fill(35), all...))
	expectNotReserved(t, "beyond MaxReservations", fill(36), 5, p, 3, 60, 20, 50)
}

// All of its interfaces are reserved, or nothing has changed.
func TestReservePathWhereOneInterfaceIsFull(t *testing.T) {
	p := longPath()
	for i, s := range impl.EgressSteps(p) {
		for place := range 3 {
			l := []impl.Reservation{leaseAt(9, 7, 3, 8, 60), leaseAt(5, 0, 2, 1, 55)}
			l = slices.Insert(l, place, leaseAt(8, s.AS, s.Egress, 6, 60))
			expectNotReserved(t, "over a full interface", l, 5, p, 3, 60, 8, 50)
			if _, ok := impl.ReservePath(l, 5, p, 2, 60, 8, 50); !ok {
				t.Errorf("step %d is not reserved", i)
			}
			if _, ok := impl.ReservePath(l, 5, p, 3, 70, 8, 61); !ok {
				t.Errorf("step %d is not reserved when the other one has expired", i)
			}
			if _, ok := impl.ReservePath(l, 8, p, 3, 70, 8, 50); !ok {
				t.Errorf("step %d is not reserved again", i)
			}
		}
	}
}

// An interface that a path uses twice is reserved once, the second time in place of the first.
func TestReservePathThroughAnInterfaceTwice(t *testing.T) {
	p := throughSteps("0>4>1 1>5>2 1>4>1 1>3>0")
	expectReserved(t, "twice through an interface", nil, 5, p, 6, 60, 8, 50, leases("1>5>2 1>4>1", 5, 6, 60))
}

func TestPathReservedAndPathRate(t *testing.T) {
	p := longPath()
	all := leases("0>4>1 3>3>1 3>0>2 2>2>3 1>5>2", 5, 3, 60)
	expect := func(what string, l []impl.Reservation, id int, p impl.Path, now int, reserved bool, rate int) {
		t.Helper()
		expectBool(t, "PathReserved "+what, impl.PathReserved(l, id, p, now), reserved)
		expectInt(t, "PathRate "+what, impl.PathRate(l, id, p, now), rate)
	}
	expect("at 60", all, 5, p, 60, true, 3)
	expect("at 61", all, 5, p, 61, false, 0)
	expect("long ago", all, 5, p, math.MinInt, true, 3)
	expect("of another ID", all, 6, p, 50, false, 0)
	expect("of nothing", nil, 5, p, 50, false, 0)
	for i := range all {
		expect("with one missing", slices.Delete(slices.Clone(all), i, i+1), 5, p, 50, false, 0)
		l := slices.Clone(all)
		l[i].Until = 49
		expect("with an expired one", l, 5, p, 50, false, 0)
		l = slices.Clone(all)
		l[i].Rate = 2
		expect("with a lesser one", l, 5, p, 50, true, 2)
		l[i].Rate = 9
		expect("with a greater one", l, 5, p, 50, true, 3)
		l[i].ID = 6
		expect("with one of another ID", l, 5, p, 50, false, 0)
		// The reservations need not be valid: a negative rate is a rate, too.
		l = slices.Clone(all)
		l[i].Rate = -7
		expect("with a negative one", l, 5, p, 50, true, -7)
		l[i].Rate = 0
		expect("with a rate of 0", l, 5, p, 50, false, 0)
		l[(i+1)%5].Rate = -1
		expect("with rates of 0 and less", l, 5, p, 50, false, -1)
		expect("with the first of two", append([]impl.Reservation{leaseAt(5, all[i].AS, all[i].Interface, 1, 60)}, all...), 5, p, 50, true, 1)
	}
	for _, single := range append(singleSteps(), impl.Path{}) {
		expect("without an egress", append(slices.Clone(all), leaseAt(5, 3, 5, 7, 60)), 5, single, 50, false, 0)
	}
	expect("of ID 0", []impl.Reservation{leaseAt(0, 3, 2, 4, 60)}, 0, pathOfParts(onePart(impl.PaUp, 3, 4)), 50, true, 4)
}

func TestAvailableRate(t *testing.T) {
	p := longPath()
	l := []impl.Reservation{leaseAt(5, 4, 1, 3, 60), leaseAt(6, 4, 1, 2, 60), leaseAt(5, 0, 2, 6, 70), leaseAt(5, 5, 2, 1, 80), leaseAt(5, 6, 1, 9, 90)}
	for now, want := range map[int]int{50: 4, 60: 4, 61: 4, 70: 4, 71: 9, 80: 9, 81: 10} {
		expectInt(t, "AvailableRate at "+impl.FormatInt(now), impl.AvailableRate(l, p, 10, now), want)
	}
	expectInts(t, "AvailableRate with other capacities", []int{impl.AvailableRate(l, p, 20, 50), impl.AvailableRate(l, p, 7, 50), impl.AvailableRate(l, p, 6, 50), impl.AvailableRate(l, p, 5, 50), impl.AvailableRate(l, p, -5, 50)}, 14, 1, 0, 0, 0)
	expectInt(t, "AvailableRate of nothing", impl.AvailableRate(nil, p, 10, 50), 10)
	for _, single := range append(singleSteps(), impl.Path{}) {
		expectInt(t, "AvailableRate without an egress", impl.AvailableRate(l, single, 10, 50), 0)
	}
	for _, s := range impl.EgressSteps(p) {
		expectInt(t, "AvailableRate at one interface", impl.AvailableRate([]impl.Reservation{leaseAt(1, s.AS, s.Egress, 4, 60)}, p, 10, 50), 6)
	}
}

func TestReservationIDs(t *testing.T) {
	of := func(ids ...int) []int {
		l := []impl.Reservation{}
		for _, id := range ids {
			l = append(l, lease(id, 1))
		}
		return impl.ReservationIDs(l)
	}
	expectInts(t, "ReservationIDs of none", of())
	expectInts(t, "ReservationIDs", of(5), 5)
	expectInts(t, "ReservationIDs", of(5, 1, 3, 1, 5, 5, 2), 1, 2, 3, 5)
	expectInts(t, "ReservationIDs", of(7, 7, 7), 7)
	expectInts(t, "ReservationIDs of no IDs", of(math.MaxInt, 0, -1, math.MinInt, 0, -1), math.MinInt, -1, 0, math.MaxInt)
}

func reservationChanges() []func(x *impl.Reservation) {
	return []func(x *impl.Reservation){
		func(x *impl.Reservation) { x.ID++ }, func(x *impl.Reservation) { x.AS++ }, func(x *impl.Reservation) { x.Interface++ }, func(x *impl.Reservation) { x.Rate++ }, func(x *impl.Reservation) { x.Until++ },
	}
}

func TestEqualReservations(t *testing.T) {
	l := []impl.Reservation{lease(1, 3), lease(2, 5), leaseAt(1, 4, 2, 7, 40)}
	expectBool(t, "EqualReservations", impl.EqualReservations(l, slices.Clone(l)), true)
	expectBool(t, "EqualReservations of nil and empty", impl.EqualReservations(nil, []impl.Reservation{}) && impl.EqualReservations([]impl.Reservation{}, nil), true)
	for i := range l {
		for _, change := range reservationChanges() {
			m := slices.Clone(l)
			change(&m[i])
			expectBool(t, "EqualReservations with another one", impl.EqualReservations(l, m) || impl.EqualReservations(m, l), false)
		}
		expectBool(t, "EqualReservations of fewer", impl.EqualReservations(l, l[:i]) || impl.EqualReservations(l[:i], l), false)
	}
	expectBool(t, "EqualReservations of another order", impl.EqualReservations(l, []impl.Reservation{l[1], l[0], l[2]}), false)
	expectBool(t, "EqualReservations of a zero one", impl.EqualReservations(nil, []impl.Reservation{{}}), false)
}

// A path is reserved at all of its interfaces, or nothing has changed.
func TestManyPathReservations(t *testing.T) {
	counts := map[bool]int{}
	l, capacity, now := []impl.Reservation{}, 12, 10
	manyPaths(t, 56, func(r *rand.Rand, p impl.Topology, path impl.Path) {
		id, rate, until := 1+r.Intn(5), 1+r.Intn(8), now+r.Intn(20)
		want, ok := l, false
		for _, s := range modelSteps(path) {
			if s.Egress != 0 {
				if want, ok = modelAdmit(want, leaseAt(id, s.AS, s.Egress, rate, until), capacity, now); !ok {
					break
				}
			}
		}
		if !ok {
			want = l
		}
		available := impl.AvailableRate(l, path, capacity, now)
		got, reserved := impl.ReservePath(l, id, path, rate, until, capacity, now)
		if reserved != ok || !same(got, want) {
			t.Fatalf("ReservePath(%+v, %d, %+v, %d, %d) = %+v, %v", l, id, path, rate, until, got, reserved)
		}
		counts[reserved]++
		if reserved {
			expectBool(t, "PathReserved", impl.PathReserved(got, id, path, until), true)
			expectInt(t, "PathRate", impl.PathRate(got, id, path, now), rate)
		} else {
			expectBool(t, "a rate that is available", rate <= available && len(l) < 30, false)
		}
		expectBool(t, "ValidReservations", impl.ValidReservations(got, capacity, now), true)
		l = got
		switch r.Intn(10) {
		case 0:
			now++
		case 1:
			l = impl.Release(l, 1+r.Intn(5))
		case 2:
			l = impl.ActiveReservations(l, now)
		}
	})
	if counts[true] < 100 || counts[false] < 100 {
		t.Errorf("too few reservations: %v", counts)
	}
}

func TestPathReservationsShareNoMemory(t *testing.T) {
	all := leases("0>4>1 3>3>1 3>0>2 2>2>3 1>5>2", 5, 3, 60)
	for _, p := range append(singleSteps(), longPath(), impl.Path{}) {
		for _, l := range [][]impl.Reservation{nil, all, fill(37), {leaseAt(8, 5, 2, 6, 60)}, {leaseAt(8, 4, 1, 6, 60)}} {
			expectPure(t, "ReservePath", impl.ReservePath, l, 5, p, 3, 60, 8, 50)
			expectPure(t, "ReservePath", impl.ReservePath, l, 6, p, 6, 60, 8, 50)
			expectPure(t, "PathReserved", impl.PathReserved, l, 5, p, 50)
			expectPure(t, "PathRate", impl.PathRate, l, 5, p, 50)
			expectPure(t, "AvailableRate", impl.AvailableRate, l, p, 8, 50)
			expectPure(t, "ReservationIDs", impl.ReservationIDs, l)
			expectPure(t, "EqualReservations", impl.EqualReservations, l, all)
		}
		expectPure(t, "EgressSteps", impl.EgressSteps, p)
	}
}
