package tests

import (
	"testing"

	"loop.example/g00222/impl"
)

// spoilt is a configuration made of the plain one by breaking it in a way that is told.
type spoilt struct {
	what  string
	spoil func(c *impl.Config)
	code  int64
}

func checkSpoilt(t *testing.T, list []spoilt) {
	t.Helper()
	for _, one := range list {
		c := plainConfig()
		one.spoil(&c)
		if code := impl.ConfigFault(c); code != one.code {
			t.Errorf("%s: ConfigFault is %d, not %d", one.what, code, one.code)
		}
		if code := wantConfigFault(c); code != one.code {
			t.Errorf("%s: wantConfigFault is %d, not %d", one.what, code, one.code)
		}
	}
}

func TestConfigFaultOfWhatHasNone(t *testing.T) {
	for _, c := range manyConfigs(2000) {
		if code := impl.ConfigFault(c); code != impl.OK {
			t.Fatalf("the fault of %v is %d", c, code)
		}
	}
	checkSpoilt(t, []spoilt{
		{"as it is", func(c *impl.Config) {}, impl.OK},
		{"version 0", func(c *impl.Config) { c.Version = 0 }, impl.OK},
		{"the last version", func(c *impl.Config) { c.Version = 1000000 }, impl.OK},
		{"no vips", func(c *impl.Config) { c.Vips = nil }, impl.OK},
		{"nothing", func(c *impl.Config) { *c = impl.Config{} }, impl.OK},
		{"the same address twice", func(c *impl.Config) { c.Backends[0].Address = 600 }, impl.OK},
		{"two vips of one port", func(c *impl.Config) { c.Vips[1].Address = 9; c.Vips[0].Names = nil }, impl.OK},
		{"vips rising by address alone", func(c *impl.Config) { c.Vips = []impl.Vip{vipOf(8, 80, 17), vipOf(9, 79, 6)} }, impl.OK},
		{"vips rising by port alone", func(c *impl.Config) { c.Vips = []impl.Vip{vipOf(9, 79, 17), vipOf(9, 80, 6)} }, impl.OK},
	})
}

func TestConfigFaultOfOneFault(t *testing.T) {
	list := []spoilt{
		{"the version below", func(c *impl.Config) { c.Version = -1 }, impl.ErrRange},
		{"the version above", func(c *impl.Config) { c.Version = 1000001 }, impl.ErrRange},
		{"nine backends", func(c *impl.Config) {
			c.Backends = append(c.Backends, backendOf(1000, 0, 0, 1, true), backendOf(1001, 0, 0, 1, true), backendOf(1002, 0, 0, 1, true))
		}, impl.ErrMany},
		{"five vips", func(c *impl.Config) { c.Vips = append(c.Vips, vipOf(10, 0, 6), vipOf(11, 0, 6)) }, impl.ErrMany},
		{"no stage", func(c *impl.Config) { c.Backends[0].Stage = 0 }, impl.ErrRange},
		{"a stage above", func(c *impl.Config) { c.Backends[5].Stage = 4 }, impl.ErrRange},
		{"a weight below", func(c *impl.Config) { c.Backends[2].Weight = -1 }, impl.ErrRange},
		{"a weight above", func(c *impl.Config) { c.Backends[2].Weight = 10 }, impl.ErrRange},
		{"no name", func(c *impl.Config) { c.Backends[0].Name = 0; c.Vips = nil }, impl.ErrRange},
		{"a name above", func(c *impl.Config) { c.Backends[5].Name = 1000; c.Vips = nil }, impl.ErrRange},
		{"an address below", func(c *impl.Config) { c.Backends[0].Address = -1 }, impl.ErrRange},
		{"an address above", func(c *impl.Config) { c.Backends[5].Address = farthest + 1 }, impl.ErrRange},
		{"backends alike", func(c *impl.Config) { c.Backends[1] = c.Backends[0]; c.Vips = nil }, impl.ErrForm},
		{"backends that fall", func(c *impl.Config) { c.Backends[4].Name = 39; c.Vips = nil }, impl.ErrForm},
		{"a vip's address below", func(c *impl.Config) { c.Vips[0].Address = -1 }, impl.ErrRange},
		{"a vip's address above", func(c *impl.Config) { c.Vips[2].Address = farthest + 1 }, impl.ErrRange},
		{"a vip's port below", func(c *impl.Config) { c.Vips[0].Port = -1 }, impl.ErrRange},
		{"a vip's port above", func(c *impl.Config) { c.Vips[2].Port = 65536 }, impl.ErrRange},
		{"a vip's protocol 0", func(c *impl.Config) { c.Vips[0].Proto = 0 }, impl.ErrRange},
		{"a vip's protocol that wraps", func(c *impl.Config) { c.Vips[2].Proto = impl.ProtoGre }, impl.ErrRange},
		{"vips alike", func(c *impl.Config) { c.Vips[1].Proto = 6 }, impl.ErrForm},
		{"vips alike but for the names", func(c *impl.Config) { c.Vips[2] = vipOf(9, 80, 17, 3) }, impl.ErrForm},
		{"vips that fall by address", func(c *impl.Config) { c.Vips[2].Address = 8 }, impl.ErrForm},
		{"vips that fall by port", func(c *impl.Config) { c.Vips[2].Port = 79 }, impl.ErrForm},
		{"vips that fall by protocol", func(c *impl.Config) { c.Vips[0].Proto, c.Vips[1].Proto = 17, 6 }, impl.ErrForm},
		{"a name of nobody", func(c *impl.Config) { c.Vips[1].Names = []int64{4} }, impl.ErrNone},
		{"the name of who is gone", func(c *impl.Config) { c.Backends = c.Backends[1:] }, impl.ErrNone},
		{"the name of the last, who is gone", func(c *impl.Config) { c.Backends = c.Backends[:5] }, impl.ErrNone},
		{"names without backends", func(c *impl.Config) { c.Backends = nil }, impl.ErrNone},
		{"a name that is none", func(c *impl.Config) { c.Vips[2].Names = []int64{3, 1000} }, impl.ErrNone},
		{"a name 0", func(c *impl.Config) { c.Vips[2].Names = []int64{0} }, impl.ErrNone},
		{"a name twice", func(c *impl.Config) { c.Vips[1].Names = []int64{3, 3} }, impl.ErrForm},
		{"names that fall", func(c *impl.Config) { c.Vips[2].Names = []int64{999, 3} }, impl.ErrForm},
		{"names that fall at last", func(c *impl.Config) { c.Vips[2].Names = []int64{3, 8, 999, 5} }, impl.ErrForm},
	}
	for _, far := range farNumbers {
		list = append(list,
			spoilt{"a far version", func(c *impl.Config) { c.Version = far }, impl.ErrRange},
			spoilt{"a far name", func(c *impl.Config) { c.Backends[0].Name = far }, impl.ErrRange},
			spoilt{"a far address", func(c *impl.Config) { c.Backends[1].Address = far }, impl.ErrRange},
			spoilt{"a far weight", func(c *impl.Config) { c.Backends[2].Weight = far }, impl.ErrRange},
			spoilt{"a far stage", func(c *impl.Config) { c.Backends[3].Stage = far }, impl.ErrRange},
			spoilt{"a vip's far address", func(c *impl.Config) { c.Vips[0].Address = far }, impl.ErrRange},
			spoilt{"a vip's far port", func(c *impl.Config) { c.Vips[1].Port = far }, impl.ErrRange},
			spoilt{"a vip's far protocol", func(c *impl.Config) { c.Vips[2].Proto = far }, impl.ErrRange},
			spoilt{"a far name of a vip", func(c *impl.Config) { c.Vips[1].Names = []int64{far} }, impl.ErrNone},
		)
	}
	checkSpoilt(t, list)
}

func TestConfigFaultIsTheFirstOne(t *testing.T) {
	manyBackends := func(c *impl.Config) { c.Backends = make([]impl.Backend, 9) }
	manyVips := func(c *impl.Config) { c.Vips = make([]impl.Vip, 5) }
	checkSpoilt(t, []spoilt{
		{"the version ahead of too many", func(c *impl.Config) { c.Version = -1; manyBackends(c); manyVips(c) }, impl.ErrRange},
		{"too many ahead of the fields", manyBackends, impl.ErrMany},
		{"too many vips ahead of the backends", func(c *impl.Config) { c.Backends[0].Name = 0; manyVips(c) }, impl.ErrMany},
		{"too many vips ahead of backends that fall", func(c *impl.Config) { c.Backends[1].Name = 1; manyVips(c) }, impl.ErrMany},
		{"a backend's fields ahead of its place", func(c *impl.Config) { c.Backends[1] = backendOf(2, 0, 10, 1, true) }, impl.ErrRange},
		{"the place of one ahead of the fields of the next", func(c *impl.Config) { c.Backends[1].Name = 2; c.Backends[2].Weight = 10 }, impl.ErrForm},
		{"the fields of one ahead of the place of the next", func(c *impl.Config) { c.Backends[1].Weight = 10; c.Backends[2].Name = 2 }, impl.ErrRange},
		{"backends ahead of vips", func(c *impl.Config) { c.Backends[5].Name = 77; c.Vips[0].Proto = 0 }, impl.ErrForm},
		{"backends ahead of names", func(c *impl.Config) { c.Backends[5].Stage = 4; c.Vips[0].Names[0] = 1 }, impl.ErrRange},
		{"a vip's fields ahead of its place", func(c *impl.Config) { c.Vips[2] = vipOf(8, 65536, 6) }, impl.ErrRange},
		{"a vip's fields ahead of its names", func(c *impl.Config) { c.Vips[0].Names[0] = 1; c.Vips[0].Proto = 47 }, impl.ErrRange},
		{"a vip's place ahead of its names", func(c *impl.Config) { c.Vips[2] = vipOf(8, 80, 6, 1) }, impl.ErrForm},
		{"who is gone ahead of what falls", func(c *impl.Config) { c.Vips[0].Names = []int64{8, 5, 4} }, impl.ErrNone},
		{"who is gone ahead of what is alike", func(c *impl.Config) { c.Vips[0].Names = []int64{4, 4} }, impl.ErrNone},
		{"names of one ahead of the fields of the next", func(c *impl.Config) { c.Vips[0].Names = []int64{4}; c.Vips[1].Proto = 5 }, impl.ErrNone},
		{"what falls in one ahead of who is gone in the next", func(c *impl.Config) { c.Vips[0].Names = []int64{5, 3}; c.Vips[2].Names[0] = 4 }, impl.ErrForm},
		{"who is gone in one ahead of what falls in the next", func(c *impl.Config) { c.Vips[0].Names = []int64{4}; c.Vips[2].Names = []int64{5, 3} }, impl.ErrNone},
		{"the fields of one ahead of names of the next", func(c *impl.Config) { c.Vips[1].Port = -1; c.Vips[2].Names = []int64{4} }, impl.ErrRange},
		{"the place of one ahead of the fields of the next", func(c *impl.Config) { c.Vips[1].Address = 8; c.Vips[2].Port = -1 }, impl.ErrForm},
	})
}

func TestConfigFaultOfManyFaults(t *testing.T) {
	for _, c := range manyBadConfigs(20000) {
		if code, want := impl.ConfigFault(c), wantConfigFault(c); code != want {
			t.Fatalf("the fault of %v is %d, not %d", c, code, want)
		}
	}
}

func TestConfigFaultOfVeryLongLists(t *testing.T) {
	c := plainConfig()
	c.Backends = make([]impl.Backend, 100000)
	if code := impl.ConfigFault(c); code != impl.ErrMany {
		t.Errorf("the fault of 100000 backends is %d", code)
	}
	c = plainConfig()
	c.Vips[1].Names = make([]int64, 100000)
	if code := impl.ConfigFault(c); code != impl.ErrNone {
		t.Errorf("the fault of 100000 names of nobody is %d", code)
	}
	for i := range c.Vips[1].Names {
		c.Vips[1].Names[i] = 5
	}
	if code := impl.ConfigFault(c); code != impl.ErrForm {
		t.Errorf("the fault of 100000 names alike is %d", code)
	}
}
