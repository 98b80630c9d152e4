package tests

import (
	"bytes"
	"encoding/binary"
	"math/rand"
	"slices"
	"testing"

	"loop.example/g00222/impl"
)

// wantCmdBytes writes the fields of a command in the order of the document, whether they fit or not.
func wantCmdBytes(x impl.Cmd) []byte {
	out := []byte{byte(x.Kind)}
	out = binary.BigEndian.AppendUint32(out, uint32(x.Expect+1))
	out = binary.BigEndian.AppendUint16(out, uint16(x.Name))
	out = binary.BigEndian.AppendUint32(out, uint32(x.Addr))
	out = binary.BigEndian.AppendUint16(out, uint16(x.Number))
	return append(out, byte(x.Proto))
}

// wantCmdRead reads a command at the places that its fields always have.
func wantCmdRead(data []byte) (impl.Cmd, bool) {
	if len(data) != 14 {
		return impl.Cmd{}, false
	}
	x := impl.Cmd{
		Kind: int64(data[0]), Expect: int64(binary.BigEndian.Uint32(data[1:])) - 1, Name: int64(binary.BigEndian.Uint16(data[5:])),
		Addr: int64(binary.BigEndian.Uint32(data[7:])), Number: int64(binary.BigEndian.Uint16(data[11:])), Proto: int64(data[13]),
	}
	if wantCmdFault(x) != impl.OK {
		return impl.Cmd{}, false
	}
	return x, true
}

// wantState puts the bits of a backend into a byte.
func wantState(b impl.Backend) byte {
	bits := byte(b.Weight)<<3 | byte(b.Stage)<<1
	if b.Up {
		bits |= 1
	}
	return bits
}

// wantConfigBytes writes the fields of a configuration in the order of the document, whether they fit or not.
func wantConfigBytes(c impl.Config) []byte {
	out := binary.BigEndian.AppendUint32(nil, uint32(c.Version))
	out = append(out, byte(len(c.Backends)))
	for _, b := range c.Backends {
		out = binary.BigEndian.AppendUint16(out, uint16(b.Name))
		out = binary.BigEndian.AppendUint32(out, uint32(b.Address))
		out = append(out, wantState(b))
	}
	out = append(out, byte(len(c.Vips)))
	for _, v := range c.Vips {
		out = binary.BigEndian.AppendUint32(out, uint32(v.Address))
		out = binary.BigEndian.AppendUint16(out, uint16(v.Port))
		out = append(out, byte(v.Proto), byte(len(v.Names)))
		for _, name := range v.Names {
			out = binary.BigEndian.AppendUint16(out, uint16(name))
		}
	}
	return out
}

// wantConfigRead reads a configuration piece by piece and leaves where there are too few bytes, or more behind them.
func wantConfigRead(data []byte) (c impl.Config, so bool) {
	short := false
	next := func(size int) []byte {
		if short || len(data) < size {
			short = true
			return make([]byte, size)
		}
		piece := data[:size]
		data = data[size:]
		return piece
	}
	two := func() int64 { return int64(binary.BigEndian.Uint16(next(2))) }
	four := func() int64 { return int64(binary.BigEndian.Uint32(next(4))) }
	one := func() int64 { return int64(next(1)[0]) }
	c.Version = four()
	for range one() {
		b := impl.Backend{Name: two(), Address: four()}
		bits := one()
		b.Weight, b.Stage, b.Up = bits>>3, bits>>1&3, bits&1 != 0
		c.Backends = append(c.Backends, b)
	}
	for range one() {
		v := impl.Vip{Address: four(), Port: two(), Proto: one()}
		for range one() {
			v.Names = append(v.Names, two())
		}
		c.Vips = append(c.Vips, v)
	}
	if short || len(data) > 0 || wantConfigFault(c) != impl.OK {
		return impl.Config{}, false
	}
	return c, true
}

func mustPackCmd(t *testing.T, x impl.Cmd, want []byte) {
	t.Helper()
	if got := impl.PackCmd(x); got.Code != impl.OK || !bytes.Equal(got.Bytes, want) {
		t.Errorf("PackCmd(%v) = %v, want the bytes %v", x, got, want)
	}
	mustUnpackCmd(t, want, x)
}

func mustNotPackCmd(t *testing.T, x impl.Cmd, code int64) {
	t.Helper()
	if got := impl.PackCmd(x); got.Code != code || len(got.Bytes) != 0 {
		t.Errorf("PackCmd(%v) = %v, want the code %d and nothing else", x, got, code)
	}
}

func mustUnpackCmd(t *testing.T, data []byte, want impl.Cmd) {
	t.Helper()
	if got := impl.UnpackCmd(guarded(data)); got != (impl.CmdResult{Cmd: want}) {
		t.Errorf("UnpackCmd(%v) = %v, want the command %v", data, got, want)
	}
}

func mustNotUnpackCmd(t *testing.T, data []byte) {
	t.Helper()
	if got := impl.UnpackCmd(guarded(data)); got != (impl.CmdResult{Code: impl.ErrText}) {
		t.Errorf("UnpackCmd(%v) = %v, want ErrText and nothing else", data, got)
	}
}

// checkCmdRead asks for just what the bytes are, a command or none, and tells which.
func checkCmdRead(t *testing.T, data []byte) bool {
	t.Helper()
	want, so := wantCmdRead(data)
	if !so {
		mustNotUnpackCmd(t, data)
		return false
	}
	mustPackCmd(t, want, data)
	return true
}

func mustPackConfig(t *testing.T, c impl.Config, want []byte) {
	t.Helper()
	if got := impl.PackConfig(c); got.Code != impl.OK || !bytes.Equal(got.Bytes, want) {
		t.Errorf("PackConfig(%v) = %v, want the bytes %v", c, got, want)
	}
	mustUnpackConfig(t, want, c)
}

func mustNotPackConfig(t *testing.T, c impl.Config, code int64) {
	t.Helper()
	if got := impl.PackConfig(c); got.Code != code || len(got.Bytes) != 0 {
		t.Errorf("PackConfig(%v) = %v, want the code %d and nothing else", c, got, code)
	}
}

func mustUnpackConfig(t *testing.T, data []byte, want impl.Config) {
	t.Helper()
	if got := impl.UnpackConfig(guarded(data)); got.Code != impl.OK || !alikeConfigs(got.Config, want) {
		t.Errorf("UnpackConfig(%v) = %v, want the configuration %v", data, got, want)
	}
}

func mustNotUnpackConfig(t *testing.T, data []byte) {
	t.Helper()
	if got := impl.UnpackConfig(guarded(data)); got.Code != impl.ErrText || !alikeConfigs(got.Config, impl.Config{}) {
		t.Errorf("UnpackConfig(%v) = %v, want ErrText and nothing else", data, got)
	}
}

// checkConfigRead asks for just what the bytes are, a configuration or none, and tells which.
func checkConfigRead(t *testing.T, data []byte) bool {
	t.Helper()
	want, so := wantConfigRead(data)
	if !so {
		mustNotUnpackConfig(t, data)
		return false
	}
	mustPackConfig(t, want, data)
	return true
}

// greatBytes are the bytes of the greatest configuration: as many of all as there may be.
func greatBytes() []byte {
	return wantConfigBytes(greatConfig())
}

// greatConfig has no list that could be longer.
func greatConfig() impl.Config {
	c := fullConfig()
	for i := range c.Vips {
		c.Vips[i].Names = slices.Clone(c.Vips[0].Names)
	}
	return c
}

// damagedBytes gives bytes that are turned, cut or longer, here and there.
func damagedBytes(random *rand.Rand, data []byte) []byte {
	data = bytes.Clone(data)
	for range 1 + random.Intn(3) {
		if len(data) == 0 {
			break
		}
		at := random.Intn(len(data))
		switch random.Intn(6) {
		case 0:
			data[at] = byte(random.Intn(256))
		case 1:
			data[at] ^= 1 << random.Intn(8)
		case 2:
			data[at]++
		case 3:
			data = slices.Delete(data, at, at+1)
		case 4:
			data = slices.Insert(data, at, byte(random.Intn(256)))
		case 5:
			data[at], data[len(data)-1-at] = data[len(data)-1-at], data[at]
		}
	}
	return data
}

func TestCodecHelpersAgreeWithEachOther(t *testing.T) {
	for _, x := range plainCmds() {
		if back, so := wantCmdRead(wantCmdBytes(x)); !so || back != x {
			t.Errorf("%v is read as %v", x, back)
		}
	}
	for _, c := range append(manyConfigs(300), greatConfig()) {
		if back, so := wantConfigRead(wantConfigBytes(c)); !so || !alikeConfigs(back, c) {
			t.Errorf("%v is read as %v", c, back)
		}
	}
	if len(greatBytes()) != 158 {
		t.Errorf("the greatest configuration has %d bytes", len(greatBytes()))
	}
}
