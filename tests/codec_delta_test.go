package tests

import (
	"maps"
	"math/rand"
	"slices"
	"testing"

	"loop.example/g00222/impl"
)

// wantDelta asks of each name that there is whether it stands for the same in both.
func wantDelta(a, b impl.Config) []int64 {
	one, other := modelOf(a).backends, modelOf(b).backends
	both := map[int64]bool{}
	for _, names := range []map[int64]impl.Backend{one, other} {
		for name := range maps.Keys(names) {
			both[name] = true
		}
	}
	maps.DeleteFunc(both, func(name int64, _ bool) bool {
		first, has := one[name]
		second, hasToo := other[name]
		return has && hasToo && first == second
	})
	return slices.Sorted(maps.Keys(both))
}

func mustDelta(t *testing.T, a, b impl.Config, want ...int64) {
	t.Helper()
	for _, got := range []impl.IntsResult{impl.DeltaOf(a, b), impl.DeltaOf(b, a)} {
		if got.Code != impl.OK || !slices.Equal(got.List, want) {
			t.Errorf("the difference of %v and %v is %v, not %v", a, b, got, want)
		}
	}
}

func mustNotDelta(t *testing.T, a, b impl.Config, code int64) {
	t.Helper()
	if got := impl.DeltaOf(a, b); got.Code != code || len(got.List) != 0 {
		t.Errorf("the difference of %v and %v is %v, not the code %d alone", a, b, got, code)
	}
}

// apart gives the plain configuration as it is when something was done to it.
func apart(do func(c *impl.Config)) impl.Config {
	c := plainConfig()
	do(&c)
	return c
}

func TestDeltaOfWhatIsTheSame(t *testing.T) {
	for _, c := range append(manyConfigs(300), greatConfig()) {
		mustDelta(t, c, cloneConfig(c))
	}
	// The version and the vips are no backends.
	for _, do := range []func(c *impl.Config){
		func(c *impl.Config) { c.Version = 0 }, func(c *impl.Config) { c.Vips = nil }, func(c *impl.Config) { c.Vips[0].Names = nil },
		func(c *impl.Config) { c.Vips[0].Address = 0 }, func(c *impl.Config) { c.Version, c.Vips = 1000000, c.Vips[1:] },
	} {
		mustDelta(t, plainConfig(), apart(do))
	}
}

func TestDeltaOfOneTurnedBackend(t *testing.T) {
	for i, b := range plainConfig().Backends {
		mustDelta(t, plainConfig(), apart(func(c *impl.Config) { c.Backends[i].Address++ }), b.Name)
		mustDelta(t, plainConfig(), apart(func(c *impl.Config) { c.Backends[i].Weight = (b.Weight + 1) % 10 }), b.Name)
		mustDelta(t, plainConfig(), apart(func(c *impl.Config) { c.Backends[i].Stage = b.Stage%3 + 1 }), b.Name)
		mustDelta(t, plainConfig(), apart(func(c *impl.Config) { c.Backends[i].Up = !b.Up }), b.Name)
		mustDelta(t, plainConfig(), apart(func(c *impl.Config) { c.Vips = nil; c.Backends = slices.Delete(c.Backends, i, i+1) }), b.Name)
		mustDelta(t, plainConfig(), apart(func(c *impl.Config) { c.Vips = nil; c.Backends = c.Backends[i : i+1] }),
			slices.DeleteFunc([]int64{3, 5, 8, 40, 77, 999}, func(name int64) bool { return name == b.Name })...)
	}
}

func TestDeltaOfMoreThanOne(t *testing.T) {
	mustDelta(t, impl.Config{}, plainConfig(), 3, 5, 8, 40, 77, 999)
	mustDelta(t, impl.Config{}, impl.Config{Version: 5})
	mustDelta(t, impl.Config{}, greatConfig(), 1, 2, 3, 500, 996, 997, 998, 999)
	mustDelta(t, plainConfig(), apart(func(c *impl.Config) { c.Backends[5].Up = true; c.Backends[0].Up = false; c.Backends[3].Weight = 0 }), 3, 40, 999)
	// A backend that has another name is one that is gone and one that came.
	mustDelta(t, plainConfig(), apart(func(c *impl.Config) { c.Backends[1].Name = 6; c.Vips = nil }), 5, 6)
	mustDelta(t, plainConfig(), apart(func(c *impl.Config) { c.Backends[5].Name = 998; c.Vips = nil }), 998, 999)
	// Each place has another backend, but all of them stood there.
	mustDelta(t, plainConfig(), apart(func(c *impl.Config) { c.Backends = c.Backends[1:]; c.Vips = nil }), 3)
	var odd, even impl.Config
	var all []int64
	for name := range int64(16) {
		all = append(all, 1+name)
		c := []*impl.Config{&odd, &even}[name%2]
		c.Backends = append(c.Backends, backendOf(1+name, 1, 1, 1, true))
	}
	mustDelta(t, odd, even, all...)
	mustDelta(t, odd, apart(func(c *impl.Config) { *c = cloneConfig(odd); c.Version = 9 }))
}

func TestDeltaOfManyConfigurations(t *testing.T) {
	random := rand.New(rand.NewSource(65))
	list := append(manyConfigs(400), greatConfig())
	same, turned := 0, 0
	for range 10000 {
		a := list[random.Intn(len(list))]
		b := list[random.Intn(len(list))]
		for range random.Intn(3) {
			if next := impl.ApplyCmd(b, someCmd(random, b)); next.Code == impl.OK {
				b = next.Config
			}
		}
		want := wantDelta(a, b)
		mustDelta(t, a, b, want...)
		for _, backend := range append(slices.Clone(a.Backends), b.Backends...) {
			if slices.Contains(impl.DeltaOf(a, b).List, backend.Name) {
				turned++
			} else if one, other := impl.BackendAt(a, backend.Name), impl.BackendAt(b, backend.Name); one != other || one.Code != impl.OK {
				t.Fatalf("%d is %v and %v, but not in the difference", backend.Name, one, other)
			} else {
				same++
			}
		}
	}
	if same < 100 || turned < 1000 {
		t.Errorf("%d were the same, and %d were not", same, turned)
	}
}

func TestDeltaOfWhatACommandTurned(t *testing.T) {
	for _, q := range doneCommands(t) {
		later := impl.ApplyCmd(q.c, q.x).Config
		got := impl.DeltaOf(q.c, later)
		if got.Code != impl.OK || !slices.Equal(got.List, wantDelta(q.c, later)) {
			t.Fatalf("behind %v the difference of %v is %v", q.x, q.c, got)
		}
		// A command turns the backend of its name alone, and those of vips turn none.
		ofVips := q.x.Kind >= impl.CmdVip && q.x.Kind <= impl.CmdDetach
		if len(got.List) > 1 || len(got.List) == 1 && (ofVips || got.List[0] != q.x.Name) {
			t.Fatalf("%v turned the backends %v of %v", q.x, got.List, q.c)
		}
	}
}

func TestDeltaOfAFault(t *testing.T) {
	good := plainConfig()
	bad := manyBadConfigs(3000)
	random := rand.New(rand.NewSource(66))
	seen := map[[2]int64]int{}
	for _, a := range bad {
		b := bad[random.Intn(len(bad))]
		first, second := wantConfigFault(a), wantConfigFault(b)
		seen[[2]int64{first, second}]++
		if first != impl.OK {
			mustNotDelta(t, a, b, first)
			mustNotDelta(t, a, good, first)
			mustNotDelta(t, good, a, first)
			mustNotDelta(t, a, a, first)
		} else if second != impl.OK {
			mustNotDelta(t, a, b, second)
		}
	}
	for _, first := range []int64{impl.ErrForm, impl.ErrMany, impl.ErrRange, impl.ErrNone} {
		for _, second := range []int64{impl.ErrForm, impl.ErrMany, impl.ErrRange, impl.ErrNone} {
			if seen[[2]int64{first, second}] == 0 {
				t.Errorf("no pair has the faults %d and %d", first, second)
			}
		}
	}
}
