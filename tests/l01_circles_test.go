package tests

import (
	"math"
	"testing"

	"loop.example/g01256/impl"
)

// The expected bits in these tables were computed from the document by a second implementation, in another language.

func TestSineTurns(t *testing.T) {
	for _, c := range [][2]uint32{
		{0x00000000, 0x00000000}, {0x80000000, 0x80000000}, {0x00000001, 0x00000006}, {0x80000001, 0x80000000},
		{0x00800000, 0x01c90fdb}, {0x80800000, 0x80000000}, {0x3e800000, 0x3f800000}, {0xbe800000, 0xbf800000},
		{0x3f000000, 0x80000000}, {0xbf000000, 0x80000000}, {0x3f400000, 0xbf800000}, {0xbf400000, 0x3f800000},
		{0x3f800000, 0x00000000}, {0xbf800000, 0x00000000}, {0x3daaaaab, 0x3f000000}, {0xbdaaaaab, 0xbf000000},
		{0x3e000000, 0x3f3504f3}, {0x3e99999a, 0x3f737870}, {0x3f333333, 0xbf737870}, {0x8da24260, 0x80000000},
		{0x4059999a, 0x3f167910}, {0xc47a1333, 0xbf7379fe}, {0x3e800001, 0x3f800000}, {0x3e7fffff, 0x3f800000},
		{0x3f000001, 0xb4c90fdb}, {0x3effffff, 0x34490fdb}, {0x4b000001, 0x00000000}, {0x4affffff, 0x80000000},
		{0x597fffff, 0x00000000}, {0x59800000, 0x00000000}, {0xd9800000, 0x00000000}, {0x7f7fffff, 0x00000000},
		{0xbe430da8, 0xbf6e4e95}, {0x3e74d3e4, 0x3f7f6612}, {0x3fd93221, 0xbf71da66}, {0xbe0cb283, 0xbf428f23},
		{0x3d0078af, 0x3e487fac}, {0x3eb2f6d1, 0x3f4f8b05}, {0xbfa17433, 0xbf7f592b}, {0x3d431c74, 0x3e96f65b},
		{0x3f04fffa, 0xbdfab147}, {0x3f960111, 0x3f61cbe8},
		// With fewer than 8 steps, these differ.
		{0xbfe0ec47, 0x3f7fbcc1}, {0xbfa0f0d5, 0xbf7fba23}, {0xbf9e5389, 0xbf7f22f3}, {0xbf9f13b9, 0xbf7fbcc1},
		// Without the way back from 0.25 turns on, these differ.
		{0xbe6e5d9f, 0xbf7e80bb}, {0xbe4e96c2, 0xbf7452f9}, {0x3f48a909, 0xbf7a3d1c},
		{plusInf, aNaN}, {minusInf, aNaN}, {aNaN, aNaN}, {0xff800001, aNaN},
	} {
		wantBits(t, "sine", impl.SineTurns(num(c[0])), c[1])
	}
}

func TestSineTurnsIsNearTheSine(t *testing.T) {
	n := noise(1)
	for range 20000 {
		x := 8 * n.between()
		got, sine := float64(impl.SineTurns(x)), math.Sin(2*math.Pi*float64(x))
		if math.Abs(got-sine) > 1e-7 {
			t.Fatalf("sine of %v turns: got %v, want nearly %v", x, got, sine)
		}
	}
}

func TestPhasorOf(t *testing.T) {
	want(t, "the example", impl.PhasorOf(0.25), complex64(complex(0, 1)))
	for _, c := range []struct {
		turns  float64
		re, im uint32
	}{
		{0, 0x3f800000, 0x00000000}, {minusZero64(), 0x3f800000, 0x80000000},
		{5e-324, 0x3f800000, 0x00000000}, {-5e-324, 0x3f800000, 0x00000000},
		{0.25, 0x00000000, 0x3f800000}, {0.5, 0xbf800000, 0x00000000},
		{0.75, 0x00000000, 0xbf800000}, {1, 0x3f800000, 0x00000000},
		{-0.25, 0x00000000, 0xbf800000}, {-0.5, 0xbf800000, 0x00000000},
		{-0.75, 0x00000000, 0x3f800000}, {-1, 0x3f800000, 0x00000000},
		{0.125, 0x3f3504f3, 0x3f3504f3}, {0.375, 0xbf3504f3, 0x3f3504f3},
		{0.625, 0xbf3504f3, 0xbf3504f3}, {0.875, 0x3f3504f3, 0xbf3504f3},
		{1.0 / 3, 0xbf000000, 0x3f5db3d7}, {-1.0 / 3, 0xbf000000, 0xbf5db3d7},
		{0.1, 0x3f4f1bbd, 0x3f167918}, {-1000.3, 0xbe9e377a, 0xbf737871},
		{0x1p-54, 0x3f800000, 0x25c90fdb}, {-0x1p-54, 0x3f800000, 0x00000000},
		{-0x1p-53, 0x3f800000, 0xa6490fdb}, {0x1p52, 0x3f800000, 0x00000000},
		{-0x1p52, 0x3f800000, 0x00000000}, {0x1p52 - 0.5, 0xbf800000, 0x00000000},
		{-0x1p52 + 0.5, 0xbf800000, 0x00000000}, {0x1p51 + 0.25, 0x3f800000, 0x00000000},
		{0x1p51 + 0.75, 0x3f800000, 0x00000000}, {0.25 - 0x1p-54, 0x25c90fdb, 0x3f800000},
		{0.123456789, 0x3f36c419, 0x3f334172}, {0.987654321, 0x3f7f3aee, 0xbd9eb459},
		{7.0 / 16, 0xbf6c835e, 0x3ec3ef15}, {12345.678, 0xbedfcda3, 0xbf663f6c},
		{0x1p63, 0x3f800000, plusZero}, {-1e300, 0x3f800000, plusZero},
		{math.Inf(1), aNaN, aNaN}, {math.Inf(-1), aNaN, aNaN}, {math.NaN(), aNaN, aNaN},
	} {
		wantParts(t, "phasor", impl.PhasorOf(c.turns), c.re, c.im)
	}
}

func TestPhasorOfIsNearTheCircle(t *testing.T) {
	n := noise(2)
	for range 20000 {
		turns := 8 * float64(n.between())
		got := impl.PhasorOf(turns)
		s, c := math.Sincos(2 * math.Pi * turns)
		if math.Abs(float64(real(got))-c) > 1e-7 || math.Abs(float64(imag(got))-s) > 1e-7 {
			t.Fatalf("phasor of %v turns: got %v, want nearly %v + %v i", turns, got, c, s)
		}
	}
}

// angleCases has y, x and the angle.
func angleCases() [][3]uint32 {
	return [][3]uint32{
		{0x00000000, 0x3f800000, 0x00000000}, {0x80000000, 0x3f800000, 0x00000000}, {0x00000000, 0xbf800000, 0x3f000000},
		{0x80000000, 0xbf800000, 0x3f000000}, {0x3f800000, 0x00000000, 0x3e800000}, {0x3f800000, 0x80000000, 0x3e800000},
		{0xbf800000, 0x00000000, 0xbe800000}, {0xbf800000, 0x80000000, 0xbe800000}, {0x3f800000, 0x3f800000, 0x3e000000},
		{0x3f800000, 0xbf800000, 0x3ec00000}, {0xbf800000, 0x3f800000, 0xbe000000}, {0xbf800000, 0xbf800000, 0xbec00000},
		{0x3f800000, 0x40000000, 0x3d972029}, {0x40000000, 0x3f800000, 0x3e346fec}, {0xc0400000, 0x40800000, 0xbdd1bfae},
		{0x40400000, 0xc0800000, 0x3ecb9014}, {0xc0800000, 0xc0400000, 0xbeb46fec}, {0x00000001, 0x00000001, 0x3e000000},
		{0x00000001, 0x7f7fffff, 0x00000000}, {0x7f7fffff, 0x00000001, 0x3e800000}, {0x80000001, 0xbf800000, 0xbf000000},
		{0x00000001, 0xbf800000, 0x3f000000}, {0x7f7fffff, 0x7f7fffff, 0x3e000000}, {0xbf800000, 0x00000001, 0xbe800000},
		{0x3f800001, 0x3f800000, 0x3e000001}, {0x3f800000, 0x3f800001, 0x3dffffff}, {0xc01bdb4a, 0xbf96fce2, 0xbea4c1c0},
		{0xc01d2eb9, 0x3fedce98, 0xbe1673ff}, {0x3f948f8e, 0xc02feaff, 0x3edf7169}, {0x4039298b, 0x4032778d, 0x3e03001b},
		{0x3f6c6cce, 0x3f31811b, 0x3e170b36}, {0xc00385b3, 0xc03a3d5e, 0xbecde543}, {0x3e2e5fdf, 0xc02921e3, 0x3efac1a6},
		{0xbfedeb89, 0xbfc63011, 0xbeb898ae}, {0xc03472c3, 0xbe5d9630, 0xbe863de7}, {0xbeb6b03c, 0x40037df5, 0xbce03156},
		{0x3deaff43, 0x3f577cf2, 0x3cb0a404}, {0xbab2667e, 0x3f7985c1, 0xb9690afb},
		// With fewer steps than from 15 down, these differ.
		{0xbfb54b80, 0x3fbad165, 0xbdfb1c26}, {0xbfe56ec3, 0x3ff96f7e, 0xbdf26485}, {0x3fc9634f, 0x3fc6f19d, 0x3e00feb7},
		{plusZero, plusZero, plusZero}, {minusZero, plusZero, plusZero}, {plusZero, minusZero, plusZero}, {minusZero, minusZero, plusZero},
		{plusInf, 0x3f800000, aNaN}, {0x3f800000, plusInf, aNaN}, {minusInf, minusInf, aNaN}, {plusZero, minusInf, aNaN},
		{aNaN, 0x3f800000, aNaN}, {0x3f800000, aNaN, aNaN}, {plusZero, aNaN, aNaN}, {aNaN, plusInf, aNaN},
	}
}

func TestAngles(t *testing.T) {
	want(t, "the example", impl.AngleOf(impl.PhasorOf(0.25)), float32(0.25))
	for _, c := range angleCases() {
		wantBits(t, "angle of a point", impl.AngleTurns(num(c[0]), num(c[1])), c[2])
		wantBits(t, "angle of a complex number", impl.AngleOf(comp(c[1], c[0])), c[2])
	}
}

func TestAnglesAreNearTheArctangent(t *testing.T) {
	n := noise(3)
	for range 20000 {
		y, x := n.between(), n.between()
		got, angle := float64(impl.AngleTurns(y, x)), math.Atan2(float64(y), float64(x))/(2*math.Pi)
		if math.Abs(got-angle) > 1e-7 {
			t.Fatalf("angle of (%v, %v): got %v, want nearly %v", y, x, got, angle)
		}
	}
}

func TestTenthsOf(t *testing.T) {
	for _, c := range []struct {
		bits uint32
		want int64
	}{
		{0x3f800000, 0}, {0x40000000, 30}, {0x3f000000, -30}, {0x41200000, 100}, {0x3dcccccd, -100},
		{0x42c80000, 200}, {0x447a0000, 300}, {0x3fc00000, 18}, {0x3f400000, -12}, {0x3f3fffff, -12},
		{0x3fbfffff, 18}, {0x3f7fffff, 0}, {0x3f800001, 0}, {0x00000001, -4485}, {0x007fffff, -3793},
		{0x00800000, -3793}, {0x7f7fffff, 3853}, {0x40400000, 48}, {0x501502f9, 1000}, {0x2edbe6ff, -1000},
		{0x3f817b6f, 0}, {0x3f817b70, 1}, {0x3f7d11d0, -1}, {0x3f7d11d1, 0}, {0x3a819256, -301},
		{0x3a819257, -300}, {0x44772365, 299}, {0x44772366, 300}, {0x406b0f88, 56}, {0x406b0f89, 57},
		// With fewer steps, these differ.
		{0x00301530, -3836}, {0x07399bf4, -3385}, {0x0ebfeed6, -2932}, {0x58b64495, 1521},
	} {
		got, ok := impl.TenthsOf(num(c.bits))
		if !ok || got != c.want {
			t.Errorf("tenths of %v: got %v %v, want %v", num(c.bits), got, ok, c.want)
		}
	}
	for _, n := range []uint32{plusZero, minusZero, 0x80000001, 0xbf800000, 0xff7fffff, plusInf, minusInf, aNaN, 0xffffffff} {
		got, ok := impl.TenthsOf(num(n))
		if ok || got != 0 {
			t.Errorf("tenths of %v: got %v %v, want none", num(n), got, ok)
		}
	}
}
