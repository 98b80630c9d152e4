package tests

import (
	"fmt"
	"math/rand"
	"slices"
	"strings"
	"testing"

	"loop.example/g00222/impl"
)

func TestConfigTextOfKnownConfigurations(t *testing.T) {
	for _, known := range []struct {
		c    impl.Config
		text string
	}{
		{impl.Config{}, "version 0\n"},
		{impl.Config{Version: 1000000}, "version 1000000\n"},
		{plainConfig(), `version 12
backend 3 0.0.1.244 2 on up
backend 5 0.0.2.88 9 drain up
backend 8 0.0.2.188 0 on up
backend 40 0.0.3.32 4 on down
backend 77 0.0.3.132 1 off up
backend 999 0.0.3.232 3 off down
vip 0.0.0.9 80 6 3 5 8 40 77
vip 0.0.0.9 80 17
vip 0.0.0.9 443 6 3 999
`},
		{fullConfig(), `version 1000000
backend 1 0.0.0.0 0 on up
backend 2 255.255.255.255 9 drain down
backend 3 0.0.0.0 0 off up
backend 500 255.255.255.255 9 on down
backend 996 0.0.0.0 0 drain up
backend 997 255.255.255.255 9 off down
backend 998 0.0.0.0 0 on up
backend 999 255.255.255.255 9 drain down
vip 0.0.0.0 0 6 1 2 3 500 996 997 998 999
vip 0.0.0.0 0 17 1 999
vip 255.255.255.255 65535 6
vip 255.255.255.255 65535 17 1 2 3 500 996 997 998 999
`},
		{impl.Config{Vips: []impl.Vip{vipOf(167772161, 0, 17)}}, "version 0\nvip 10.0.0.1 0 17\n"},
	} {
		if answer := impl.ConfigText(known.c); answer.Code != impl.OK || answer.Text != known.text {
			t.Errorf("the text is %q, not %q", answer.Text, known.text)
		}
	}
}

// wantConfigText writes a configuration by the library.
func wantConfigText(c impl.Config) string {
	address := func(a int64) string { return fmt.Sprintf("%d.%d.%d.%d", a>>24, a>>16&255, a>>8&255, a&255) }
	var text strings.Builder
	fmt.Fprintf(&text, "version %d\n", c.Version)
	for _, b := range c.Backends {
		state := map[bool]string{true: "up", false: "down"}[b.Up]
		fmt.Fprintf(&text, "backend %d %s %d %s %s\n", b.Name, address(b.Address), b.Weight, strings.Fields("on drain off")[b.Stage-1], state)
	}
	for _, v := range c.Vips {
		fmt.Fprintf(&text, "vip %s %d %d", address(v.Address), v.Port, v.Proto)
		for _, name := range v.Names {
			fmt.Fprintf(&text, " %d", name)
		}
		text.WriteString("\n")
	}
	return text.String()
}

func TestConfigTextOfManyConfigurations(t *testing.T) {
	for _, c := range manyConfigs(2000) {
		if answer, want := impl.ConfigText(c), wantConfigText(c); answer.Code != impl.OK || answer.Text != want {
			t.Fatalf("the text of %v is %q, not %q", c, answer.Text, want)
		}
	}
}

// turnedConfigs gives copies of a configuration, each with one thing turned.
func turnedConfigs(c impl.Config) []impl.Config {
	var list []impl.Config
	turn := func(do func(c *impl.Config)) {
		other := cloneConfig(c)
		do(&other)
		list = append(list, other)
	}
	turn(func(c *impl.Config) { c.Version++ })
	turn(func(c *impl.Config) { c.Backends = append(c.Backends, impl.Backend{}) })
	turn(func(c *impl.Config) { c.Vips = append(c.Vips, impl.Vip{}) })
	for i := range c.Backends {
		turn(func(c *impl.Config) { c.Backends[i].Name++ })
		turn(func(c *impl.Config) { c.Backends[i].Address++ })
		turn(func(c *impl.Config) { c.Backends[i].Weight++ })
		turn(func(c *impl.Config) { c.Backends[i].Stage++ })
		turn(func(c *impl.Config) { c.Backends[i].Up = !c.Backends[i].Up })
		turn(func(c *impl.Config) { c.Backends = slices.Delete(c.Backends, i, i+1) })
	}
	for i, vip := range c.Vips {
		turn(func(c *impl.Config) { c.Vips[i].Address++ })
		turn(func(c *impl.Config) { c.Vips[i].Port++ })
		turn(func(c *impl.Config) { c.Vips[i].Proto++ })
		turn(func(c *impl.Config) { c.Vips[i].Names = append(c.Vips[i].Names, 0) })
		turn(func(c *impl.Config) { c.Vips = slices.Delete(c.Vips, i, i+1) })
		for k := range vip.Names {
			turn(func(c *impl.Config) { c.Vips[i].Names[k]++ })
			turn(func(c *impl.Config) { c.Vips[i].Names = slices.Delete(c.Vips[i].Names, k, k+1) })
		}
		if len(vip.Names) > 1 {
			turn(func(c *impl.Config) { slices.Reverse(c.Vips[i].Names) })
		}
	}
	if len(c.Backends) > 1 {
		turn(func(c *impl.Config) { slices.Reverse(c.Backends) })
	}
	if len(c.Vips) > 1 {
		turn(func(c *impl.Config) { slices.Reverse(c.Vips) })
	}
	return list
}

func TestSameConfigsHoldsAllAgainstEachOther(t *testing.T) {
	// No fault is asked here: what has one is the same as itself, too.
	for _, c := range append(manyConfigs(200), manyBadConfigs(200)...) {
		if !impl.SameConfigs(c, c) || !impl.SameConfigs(c, cloneConfig(c)) {
			t.Fatalf("%v is not the same as its copy", c)
		}
		for _, other := range turnedConfigs(c) {
			if want := alikeConfigs(c, other); impl.SameConfigs(c, other) != want || impl.SameConfigs(other, c) != want {
				t.Fatalf("%v and %v are the same: not %v", c, other, want)
			}
		}
	}
	// Of a plain one each turn is seen: none of them leaves it as it was.
	for _, other := range turnedConfigs(plainConfig()) {
		if impl.SameConfigs(plainConfig(), other) {
			t.Errorf("%v is the same as the plain one", other)
		}
	}
}

func TestSameConfigsOfSomeAndOthers(t *testing.T) {
	random := rand.New(rand.NewSource(58))
	list := manyConfigs(60)
	for range 5000 {
		a, b := list[random.Intn(len(list))], list[random.Intn(len(list))]
		if want := alikeConfigs(a, b); impl.SameConfigs(a, b) != want {
			t.Fatalf("%v and %v are the same: not %v", a, b, want)
		}
	}
}
