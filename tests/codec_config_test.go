package tests

import (
	"bytes"
	"encoding/binary"
	"math/rand"
	"slices"
	"testing"

	"loop.example/g00222/impl"
)

func TestPackConfigByHand(t *testing.T) {
	mustPackConfig(t, impl.Config{}, []byte{0, 0, 0, 0, 0, 0})
	mustPackConfig(t, impl.Config{Version: 1000000}, []byte{0, 15, 66, 64, 0, 0})
	mustPackConfig(t, impl.Config{Version: 515, Vips: []impl.Vip{vipOf(16909060, 1286, 17)}}, []byte{0, 0, 2, 3, 0, 1, 1, 2, 3, 4, 5, 6, 17, 0})
	mustPackConfig(t, impl.Config{Version: 1, Backends: []impl.Backend{backendOf(3, 500, 2, impl.StageOn, true)}},
		[]byte{0, 0, 0, 1, 1, 0, 3, 0, 0, 1, 244, 19, 0})
	c := impl.Config{
		Version:  258,
		Backends: []impl.Backend{backendOf(40, 4294967295, 9, impl.StageOff, true), backendOf(999, 0, 0, impl.StageDrain, false)},
		Vips:     []impl.Vip{vipOf(9, 80, 6, 40, 999), vipOf(9, 80, 17), vipOf(4294967295, 65535, 6, 999)},
	}
	mustPackConfig(t, c, []byte{
		0, 0, 1, 2,
		2, 0, 40, 255, 255, 255, 255, 79, 3, 231, 0, 0, 0, 0, 4,
		3, 0, 0, 0, 9, 0, 80, 6, 2, 0, 40, 3, 231, 0, 0, 0, 9, 0, 80, 17, 0, 255, 255, 255, 255, 255, 255, 6, 1, 3, 231,
	})
}

func TestPackConfigOfTheBitsOfAByte(t *testing.T) {
	seen := map[byte]bool{}
	for weight := range int64(10) {
		for stage := range int64(3) {
			for up := range byte(2) {
				c := impl.Config{Backends: []impl.Backend{backendOf(7, 1, weight, 1+stage, up == 1)}}
				state := byte(weight)*8 + byte(1+stage)*2 + up
				mustPackConfig(t, c, []byte{0, 0, 0, 0, 1, 0, 7, 0, 0, 0, 1, state, 0})
				seen[state] = true
			}
		}
	}
	if len(seen) != 60 {
		t.Errorf("there are %d bytes of a state", len(seen))
	}
	for state := range 256 {
		if !seen[byte(state)] {
			mustNotUnpackConfig(t, []byte{0, 0, 0, 0, 1, 0, 7, 0, 0, 0, 1, byte(state), 0})
		}
	}
}

func TestPackConfigOfManyConfigurations(t *testing.T) {
	for _, c := range append(manyConfigs(3000), greatConfig()) {
		mustPackConfig(t, c, wantConfigBytes(c))
		if !impl.SameConfigs(impl.UnpackConfig(impl.PackConfig(c).Bytes).Config, c) {
			t.Fatalf("%v is not read back", c)
		}
	}
}

func TestPackConfigOfAsManyAsThereMayBe(t *testing.T) {
	c := greatConfig()
	for backends := range 9 {
		for vips := range 5 {
			for names := range backends + 1 {
				some := cloneConfig(c)
				some.Backends, some.Vips = some.Backends[:backends], some.Vips[:vips]
				for i := range some.Vips {
					some.Vips[i].Names = some.Vips[i].Names[:names]
				}
				mustPackConfig(t, some, wantConfigBytes(some))
				if length := len(impl.PackConfig(some).Bytes); length != 6+7*backends+vips*(8+2*names) {
					t.Errorf("%v has %d bytes", some, length)
				}
			}
		}
	}
}

func TestPackConfigOfEachNumber(t *testing.T) {
	for _, n := range []int64{0, 1, 2, 255, 256, 65535, 65536, 999999, 1000000, 1 << 24, 1 << 31, farthest - 1, farthest} {
		for _, turn := range []func(c *impl.Config){
			func(c *impl.Config) { c.Version = n }, func(c *impl.Config) { c.Backends[5].Address = n },
			func(c *impl.Config) { c.Backends[5].Name = n; c.Vips = nil }, func(c *impl.Config) { c.Vips[0].Address = n; c.Vips = c.Vips[:1] },
			func(c *impl.Config) { c.Vips[2].Port = n; c.Vips = c.Vips[2:] },
		} {
			c := plainConfig()
			turn(&c)
			if code := wantConfigFault(c); code != impl.OK {
				mustNotPackConfig(t, c, code)
			} else {
				mustPackConfig(t, c, wantConfigBytes(c))
			}
		}
	}
}

func TestPackConfigOfAFault(t *testing.T) {
	codes := map[int64]int{}
	for _, c := range manyBadConfigs(6000) {
		code := wantConfigFault(c)
		codes[code]++
		if code != impl.OK {
			mustNotPackConfig(t, c, code)
		} else {
			mustPackConfig(t, c, wantConfigBytes(c))
		}
	}
	for _, code := range []int64{impl.ErrForm, impl.ErrMany, impl.ErrRange, impl.ErrNone} {
		if codes[code] < 100 {
			t.Errorf("the faults are %v", codes)
		}
	}
	// So many that a byte would tell none.
	mustNotPackConfig(t, impl.Config{Backends: make([]impl.Backend, 256)}, impl.ErrMany)
	mustNotPackConfig(t, impl.Config{Vips: make([]impl.Vip, 256)}, impl.ErrMany)
	mustNotPackConfig(t, impl.Config{Vips: []impl.Vip{vipOf(1, 1, 6, make([]int64, 256)...)}}, impl.ErrNone)
}

func TestUnpackConfigOfAnyLength(t *testing.T) {
	mustNotUnpackConfig(t, nil)
	mustNotUnpackConfig(t, []byte{})
	for _, c := range []impl.Config{{}, {Version: 1000000}, plainConfig(), fullConfig(), greatConfig()} {
		good := wantConfigBytes(c)
		for cut := range good {
			mustNotUnpackConfig(t, good[:cut])
			checkConfigRead(t, good[cut:])
			checkConfigRead(t, slices.Delete(bytes.Clone(good), cut, cut+1))
		}
		for more := range 256 {
			mustNotUnpackConfig(t, joined(good, []byte{byte(more)}))
			checkConfigRead(t, joined([]byte{byte(more)}, good))
		}
		mustNotUnpackConfig(t, joined(good, good))
		mustNotUnpackConfig(t, joined(good, make([]byte, 100000)))
		mustUnpackConfig(t, good, c)
	}
}

func TestUnpackConfigReadsNothingBehindItsBytes(t *testing.T) {
	good := greatBytes()
	for cut := range good {
		// The other bytes lie behind the end, where there is room.
		if got := impl.UnpackConfig(good[:cut]); got.Code != impl.ErrText || !alikeConfigs(got.Config, impl.Config{}) {
			t.Errorf("UnpackConfig of %v = %v", good[:cut], got)
		}
	}
}

func TestUnpackConfigOfSameBytes(t *testing.T) {
	for value := range 256 {
		for length := range 200 {
			data := bytes.Repeat([]byte{byte(value)}, length)
			if so := checkConfigRead(t, data); so != (value == 0 && length == 6) {
				t.Errorf("%v is a configuration: %v", data, so)
			}
		}
		mustNotUnpackConfig(t, bytes.Repeat([]byte{byte(value)}, 200000))
	}
}

func TestUnpackConfigOfAnyTurnedByte(t *testing.T) {
	read, unread := 0, 0
	for _, c := range []impl.Config{{}, plainConfig(), fullConfig(), greatConfig()} {
		good := wantConfigBytes(c)
		for at := range good {
			for value := range 256 {
				data := bytes.Clone(good)
				data[at] = byte(value)
				if checkConfigRead(t, data) {
					read++
				} else {
					unread++
				}
			}
		}
	}
	if read < 1000 || unread < 1000 {
		t.Errorf("%d of the turned bytes are read, and %d are not", read, unread)
	}
}

func TestUnpackConfigOfAnyCount(t *testing.T) {
	c := plainConfig()
	backends, vips := 4, 4+1+7*len(c.Backends)
	for _, at := range []int{backends, vips, vips + 1 + 7} {
		good := wantConfigBytes(c)
		for count := range 256 {
			data := bytes.Clone(good)
			data[at] = byte(count)
			if data[at] != good[at] {
				mustNotUnpackConfig(t, data)
				mustNotUnpackConfig(t, joined(data, make([]byte, 4000)))
				mustNotUnpackConfig(t, joined(data, good))
			}
		}
	}
}

func TestUnpackConfigOfNoConfiguration(t *testing.T) {
	var list []func(c *impl.Config)
	add := func(more ...func(c *impl.Config)) { list = append(list, more...) }
	add(
		func(c *impl.Config) { c.Version = 1000001 }, func(c *impl.Config) { c.Version = 1 << 31 }, func(c *impl.Config) { c.Version = farthest },
		func(c *impl.Config) { c.Backends[0].Name = 0; c.Vips = nil }, func(c *impl.Config) { c.Backends[5].Name = 1000; c.Vips = nil },
		func(c *impl.Config) { c.Backends[5].Name = 65535; c.Vips = nil }, func(c *impl.Config) { c.Backends[0].Weight = 10 },
		func(c *impl.Config) { c.Backends[0].Weight = 31 }, func(c *impl.Config) { c.Backends[0].Stage = 0 },
		func(c *impl.Config) { c.Backends[1] = c.Backends[0]; c.Vips = nil }, func(c *impl.Config) { slices.Reverse(c.Backends) },
		func(c *impl.Config) { c.Backends[4].Name = 39; c.Vips = nil }, func(c *impl.Config) { c.Backends = nil },
		func(c *impl.Config) { c.Backends = c.Backends[1:] }, func(c *impl.Config) { c.Backends = c.Backends[:5] },
	)
	add(
		func(c *impl.Config) { c.Vips[0].Proto = 0 }, func(c *impl.Config) { c.Vips[0].Proto = 7 }, func(c *impl.Config) { c.Vips[2].Proto = 47 },
		func(c *impl.Config) { c.Vips[1].Proto = 6 }, func(c *impl.Config) { c.Vips[1] = c.Vips[0] }, func(c *impl.Config) { slices.Reverse(c.Vips) },
		func(c *impl.Config) { c.Vips[2].Address = 8 }, func(c *impl.Config) { c.Vips[2].Port = 79 }, func(c *impl.Config) { c.Vips[1].Names = []int64{4} },
		func(c *impl.Config) { c.Vips[1].Names = []int64{0} }, func(c *impl.Config) { c.Vips[1].Names = []int64{3, 3} },
		func(c *impl.Config) { c.Vips[1].Names = []int64{5, 3} }, func(c *impl.Config) { slices.Reverse(c.Vips[0].Names) },
		func(c *impl.Config) { c.Vips[2].Names = []int64{3, 1000} }, func(c *impl.Config) { c.Vips[2].Names = []int64{3, 65535} },
	)
	add(
		func(c *impl.Config) { *c = fullConfig(); c.Vips = append(c.Vips, vipOf(farthest, 65535, 17)) },
		func(c *impl.Config) {
			c.Vips = []impl.Vip{vipOf(1, 0, 6), vipOf(2, 0, 6), vipOf(3, 0, 6), vipOf(4, 0, 6), vipOf(5, 0, 6)}
		},
		func(c *impl.Config) {
			c.Backends = append(c.Backends, c.Backends[5], c.Backends[5], c.Backends[5])
			for i := range c.Backends {
				c.Backends[i].Name = int64(1 + i)
			}
			c.Vips = nil
		},
	)
	for i, spoil := range list {
		c := plainConfig()
		spoil(&c)
		if wantConfigFault(c) == impl.OK {
			t.Errorf("number %d is a configuration: %v", i, c)
		}
		mustNotUnpackConfig(t, wantConfigBytes(c))
	}
}

func TestUnpackConfigOfMoreThanThereMayBe(t *testing.T) {
	for _, count := range []int{9, 10, 16, 128, 255} {
		var backends []impl.Backend
		for i := range count {
			backends = append(backends, backendOf(int64(1+i), 1, 1, 1, true))
		}
		mustNotUnpackConfig(t, wantConfigBytes(impl.Config{Backends: backends}))
		var vips []impl.Vip
		for i := range count - 4 {
			vips = append(vips, vipOf(int64(i), 1, 6))
		}
		mustNotUnpackConfig(t, wantConfigBytes(impl.Config{Vips: vips}))
		names := make([]int64, count)
		for i := range names {
			names[i] = int64(1 + i)
		}
		mustNotUnpackConfig(t, wantConfigBytes(impl.Config{Backends: backends[:8], Vips: []impl.Vip{vipOf(1, 1, 6, names...)}}))
	}
}

func TestUnpackConfigOfAnyVersion(t *testing.T) {
	data := wantConfigBytes(plainConfig())
	for version, so := range map[uint32]bool{0: true, 1: true, 65536: true, 999999: true, 1000000: true, 1000001: false, 1 << 24: false, 1 << 31: false, 1<<32 - 1: false} {
		binary.BigEndian.PutUint32(data, version)
		want := plainConfig()
		want.Version = int64(version)
		if so {
			mustUnpackConfig(t, data, want)
		} else {
			mustNotUnpackConfig(t, data)
		}
	}
}

func TestUnpackConfigOfDamagedBytes(t *testing.T) {
	random := rand.New(rand.NewSource(64))
	read := 0
	for _, c := range append(manyConfigs(1500), manyBadConfigs(1500)...) {
		for range 10 {
			if checkConfigRead(t, damagedBytes(random, wantConfigBytes(c))) {
				read++
			}
		}
		checkConfigRead(t, wantConfigBytes(c))
	}
	if read < 1000 {
		t.Errorf("only %d were configurations", read)
	}
	for i := range 5000 {
		checkConfigRead(t, upTo(int64(i), i%170))
	}
}

func TestTwoConfigurationsHaveNotTheSameBytes(t *testing.T) {
	seen := map[string]impl.Config{}
	list := manyConfigs(1000)
	for _, c := range list[:100] {
		list = append(list, turnedConfigs(c)...)
	}
	for _, c := range list {
		packed := impl.PackConfig(c)
		if other, known := seen[string(packed.Bytes)]; packed.Code == impl.OK && known && !alikeConfigs(other, c) {
			t.Fatalf("%v and %v have the bytes %v", c, other, packed.Bytes)
		}
		seen[string(packed.Bytes)] = c
	}
}

func TestCommandsAndConfigurationsAreNotReadAsEachOther(t *testing.T) {
	for _, x := range plainCmds() {
		mustNotUnpackConfig(t, wantCmdBytes(x))
	}
	for _, c := range manyConfigs(500) {
		mustNotUnpackCmd(t, wantConfigBytes(c))
		mustNotUnpackConfig(t, impl.PutFrame(wantConfigBytes(c)).Bytes)
	}
}
