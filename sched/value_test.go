package sched

import "testing"

// Values that were reckoned elsewhere, over another library's binary32.

// TestConstants: SC1.
func TestConstants(t *testing.T) {
	holdPoints(t, []point{
		{constantOf(one), 0, one},
		{constantOf(one), 1, one},
		{constantOf(one), maxCount, one},
		{constantOf(zero), 0, zero},
		{constantOf(zero), 1, zero},
		{constantOf(zero), maxCount, zero},
		{constantOf(minus), 0, minus},
		{constantOf(minus), 1, minus},
		{constantOf(minus), maxCount, minus},
		{constantOf(0x00000001), 0, 0x00000001},
		{constantOf(0x00000001), 1, 0x00000001},
		{constantOf(0x00000001), maxCount, 0x00000001},
		{constantOf(0xbdcccccd), 0, 0xbdcccccd},
		{constantOf(0xbdcccccd), 1, 0xbdcccccd},
		{constantOf(0xbdcccccd), maxCount, 0xbdcccccd},
		{constantOf(most), 0, most},
		{constantOf(most), 1, most},
		{constantOf(most), maxCount, most},
		{constantOf(minus | most), 0, minus | most},
		{constantOf(minus | most), 1, minus | most},
		{constantOf(minus | most), maxCount, minus | most},
	})
}

// TestPolynomialRounded: SC1, each operation is rounded for itself, as the table writes it: fused, in another order or with more bits
// all of these come out otherwise.
func TestPolynomialRounded(t *testing.T) {
	holdPoints(t, []point{
		{polynomialOf(0x403fb44d, 0xbfaa02cd, 1, 31, 10), 34, 0xbeb42e4e},
		{polynomialOf(0xc007b898, 0x3f8114b4, 2, 665, 42), 404, 0x3eb7b7ca},
		{polynomialOf(0x401fc2eb, 0xbee3117b, 2, 773, 4), 438, 0x3df9a89c},
		{polynomialOf(0xc02ad7c5, 0xbe326401, 1, 58, 8), 35, 0xbfc1016e},
		{polynomialOf(0xbdf4038c, 0x401a3c67, 1, 28, 6), 29, 0x3ffaaa0e},
		{polynomialOf(0x3fe87c12, 0xbd96ff27, 3, 23, 22), 30, 0x3ee6ad68},
	})
}

// TestPolynomialFar: SC1, steps, begin and the step as great as may be.
func TestPolynomialFar(t *testing.T) {
	holdPoints(t, []point{
		{polynomialOf(one, zero, 1, maxCount, 0), 0, one},
		{polynomialOf(one, zero, 1, maxCount, 0), 1, one},
		{polynomialOf(one, zero, 1, maxCount, 0), 1 << 30, half},
		{polynomialOf(one, zero, 1, maxCount, 0), maxCount - 1, zero},
		{polynomialOf(one, zero, 1, maxCount, 0), maxCount, zero},
		{polynomialOf(one, zero, 1, maxCount, maxCount), maxCount, one},
		{polynomialOf(one, zero, 1, 1, maxCount), maxCount, one},
		{polynomialOf(one, zero, 1, 1, maxCount-1), maxCount - 1, one},
		{polynomialOf(one, zero, 1, 1, maxCount-1), maxCount, zero},
		{polynomialOf(one, 0x3e800000, 1, maxCount, maxCount-2), maxCount, one},
		{polynomialOf(one, zero, 1, 1<<30, 1<<30), 1<<30 + 1<<29, half},
	})
}

// TestPolynomialPowers: SC1, from 1 to MaxPower.
func TestPolynomialPowers(t *testing.T) {
	holdPoints(t, []point{
		{polynomialOf(three, one, 1, 1000, 0), 1, 0x403fdf3c},
		{polynomialOf(three, one, 1, 4, 0), 1, 0x40200000},
		{polynomialOf(three, one, 1, 4, 0), 2, 0x40000000},
		{polynomialOf(three, one, 1, 4, 0), 3, 0x3fc00000},
		{polynomialOf(three, one, 1, 3, 0), 1, 0x40155555},
		{polynomialOf(three, one, 2, 1000, 0), 1, 0x403fbe80},
		{polynomialOf(three, one, 2, 4, 0), 1, 0x40080000},
		{polynomialOf(three, one, 2, 4, 0), 2, 0x3fc00000},
		{polynomialOf(three, one, 2, 4, 0), 3, 0x3f900000},
		{polynomialOf(three, one, 2, 3, 0), 1, 0x3ff1c71c},
		{polynomialOf(three, one, 3, 1000, 0), 1, 0x403f9dcc},
		{polynomialOf(three, one, 3, 4, 0), 1, 0x3fec0000},
		{polynomialOf(three, one, 3, 4, 0), 2, 0x3fa00000},
		{polynomialOf(three, one, 3, 4, 0), 3, 0x3f840000},
		{polynomialOf(three, one, 3, 3, 0), 1, 0x3fcbda12},
		{polynomialOf(three, one, 7, 1000, 0), 1, 0x403f1b51},
		{polynomialOf(three, one, 7, 4, 0), 1, 0x3fa22c00},
		{polynomialOf(three, one, 7, 4, 0), 2, 0x3f820000},
		{polynomialOf(three, one, 7, 4, 0), 3, 0x3f800400},
		{polynomialOf(three, one, 7, 3, 0), 1, 0x3f8efbab},
		{polynomialOf(three, one, maxPower-1, 1000, 0), 1, 0x3fdbfd98},
		{polynomialOf(three, one, maxPower-1, 4, 0), 1, one},
		{polynomialOf(three, one, maxPower-1, 4, 0), 2, one},
		{polynomialOf(three, one, maxPower-1, 4, 0), 3, one},
		{polynomialOf(three, one, maxPower-1, 3, 0), 1, one},
		{polynomialOf(three, one, maxPower, 1000, 0), 1, 0x3fdbe611},
		{polynomialOf(three, one, maxPower, 4, 0), 1, one},
		{polynomialOf(three, one, maxPower, 4, 0), 2, one},
		{polynomialOf(three, one, maxPower, 4, 0), 3, one},
		{polynomialOf(three, one, maxPower, 3, 0), 1, one},
	})
}

// TestPolynomialEnds: SC1, a below b, equal to it, of noughts; with a difference that is infinite, or rounded.
func TestPolynomialEnds(t *testing.T) {
	holdPoints(t, []point{
		{polynomialOf(zero, one, 2, 4, 2), 1, zero},
		{polynomialOf(zero, one, 2, 4, 2), 3, 0x3ee00000},
		{polynomialOf(zero, one, 2, 4, 2), 5, 0x3f700000},
		{polynomialOf(zero, one, 2, 4, 2), 6, one},
		{polynomialOf(0x3dcccccd, 0x3dcccccd, 1, 4, 0), 0, 0x3dcccccd},
		{polynomialOf(0x3dcccccd, 0x3dcccccd, 1, 4, 0), 1, 0x3dcccccd},
		{polynomialOf(0x3dcccccd, 0x3dcccccd, 1, 4, 0), 4, 0x3dcccccd},
		{polynomialOf(zero, zero, 1, 2, 0), 1, zero},
		{polynomialOf(zero, minus, 1, 2, 0), 1, zero},
		{polynomialOf(minus, zero, 1, 2, 0), 1, zero},
		{polynomialOf(minus, minus, 1, 2, 0), 1, zero},
		{polynomialOf(minus, minus, 1, 2, 0), 2, zero},
		{polynomialOf(0xbf800000, minus, 1, 2, 0), 2, minus},
		{polynomialOf(one, minus, 1, 2, 0), 2, zero},
		{polynomialOf(one, zero, 1, 2, 0), 2, zero},
		{polynomialOf(0xbf800000, zero, 1, 2, 0), 2, zero},
		{polynomialOf(most, minus|most, 1, 4, 0), 0, inf},
		{polynomialOf(most, minus|most, 1, 4, 0), 1, inf},
		{polynomialOf(most, minus|most, 1, 4, 0), 3, inf},
		{polynomialOf(most, minus|most, 1, 4, 0), 4, nan},
		{polynomialOf(minus|most, most, 1, 4, 1), 1, minus | inf},
		{polynomialOf(minus|most, most, 2, 4, 1), 2, minus | inf},
		{polynomialOf(minus|most, most, 1, 4, 1), 5, nan},
		{polynomialOf(most, zero, 1, 4, 0), 1, 0x7f3fffff},
		{polynomialOf(most, 0xf2ffffff, 1, 4, 0), 0, most},
		{polynomialOf(most, 0xf3000000, 1, 4, 0), 0, inf},
		{polynomialOf(most, 0xf3000000, 1, 4, 0), 4, nan},
		{polynomialOf(one, 0x4cbebc20, 1, 3, 0), 0, zero},
		{polynomialOf(0x4cbebc20, one, 1, 3, 0), 0, 0x4cbebc20},
		{polynomialOf(0x3dcccccd, 0x42c80000, 1, 3, 0), 0, 0x3dcccc00},
		{polynomialOf(0x3dcccccd, 0x3a83126f, 1, 3, 5), 4, 0x3dcccccd},
		{polynomialOf(0x00000001, zero, 1, 2, 0), 1, zero},
		{polynomialOf(0x00000003, zero, 1, 2, 0), 1, 0x00000002},
		{polynomialOf(0x80000001, zero, 1, 2, 0), 1, zero},
		{polynomialOf(0x00800000, 0x00000001, 2, 2, 0), 1, 0x00200001},
	})
}

// TestExponentialRounded: SC1, as TestPolynomialRounded.
func TestExponentialRounded(t *testing.T) {
	holdPoints(t, []point{
		{exponentialOf(0x4032a72a, 0x3f02fbcd, 2, 5), 17, 0x3d4d240a},
		{exponentialOf(0xbeba767f, 0x3f50ae01, 15, 12), 250, 0xbc8b18b2},
		{exponentialOf(0xbf91d4bd, 0x3f2a1fa8, 11, 12), 127, 0xbc9cc673},
		{exponentialOf(0xbe1ce571, 0x3f14ebc7, 15, 7), 244, 0xb83dfb61},
		{exponentialOf(0x3ff71925, 0x3fa67d78, 13, 0), 174, 0x426b86cc},
	})
}

// TestExponentialSteps: SC1, about begin, about each fall, as far as may be; powers that become a nought, an infinity.
func TestExponentialSteps(t *testing.T) {
	holdPoints(t, []point{
		{exponentialOf(three, half, 10, 5), 0, three},
		{exponentialOf(three, half, 10, 5), 4, three},
		{exponentialOf(three, half, 10, 5), 5, three},
		{exponentialOf(three, half, 10, 5), 6, three},
		{exponentialOf(three, half, 10, 5), 14, three},
		{exponentialOf(three, half, 10, 5), 15, 0x3fc00000},
		{exponentialOf(three, half, 10, 5), 16, 0x3fc00000},
		{exponentialOf(three, half, 10, 5), 24, 0x3fc00000},
		{exponentialOf(three, half, 10, 5), 25, 0x3f400000},
		{exponentialOf(three, half, 1, 0), 148, 0x00000006},
		{exponentialOf(three, half, 1, 0), 149, 0x00000003},
		{exponentialOf(three, half, 1, 0), 150, zero},
		{exponentialOf(0xc0400000, half, 1, 0), 150, minus},
		{exponentialOf(0xc0400000, half, 1, 0), 149, 0x80000003},
		{exponentialOf(one, 0x40000000, 1, 0), 127, 0x7f000000},
		{exponentialOf(one, 0x40000000, 1, 0), 128, inf},
		{exponentialOf(0xbf800000, 0x40000000, 1, 0), 128, minus | inf},
		{exponentialOf(zero, 0x40000000, 1, 0), 127, zero},
		{exponentialOf(zero, 0x40000000, 1, 0), 128, nan},
		{exponentialOf(minus, 0x40000000, 1, 0), 127, minus},
		{exponentialOf(minus, 0x40000000, 1, 0), 128, nan},
		{exponentialOf(0x00000001, 0x40000000, 1, 0), 127, 0x34800000},
		{exponentialOf(0x00000001, 0x40000000, 1, 0), 128, inf},
		{exponentialOf(three, one, 1, 0), maxCount, three},
		{exponentialOf(three, 0x3f7fffff, 1, 0), maxCount, zero},
		{exponentialOf(three, 0x3f800001, 1, 0), maxCount, inf},
		{exponentialOf(three, 0x3f7fffff, maxCount, 0), maxCount - 1, three},
		{exponentialOf(three, 0x3f7fffff, maxCount, 0), maxCount, 0x403fffff},
		{exponentialOf(three, 0x3f7fffff, maxCount, 1), maxCount, three},
		{exponentialOf(three, 0x3f7fffff, 1, maxCount-1), maxCount - 1, three},
		{exponentialOf(three, 0x3f7fffff, 1, maxCount-1), maxCount, 0x403fffff},
		{exponentialOf(three, half, 1, maxCount), maxCount, three},
		{exponentialOf(three, half, maxCount, maxCount), maxCount, three},
		{exponentialOf(three, half, maxCount, maxCount), 0, three},
		{exponentialOf(three, half, 1<<30, 0), maxCount, 0x3fc00000},
		{exponentialOf(three, half, 1<<30, 0), 1 << 30, 0x3fc00000},
		{exponentialOf(three, half, 1<<30, 0), 1<<30 - 1, three},
		{exponentialOf(three, 0x00000001, 1, 0), 1, 0x00000003},
		{exponentialOf(three, 0x00000001, 1, 0), 2, zero},
		{exponentialOf(most, half, 1, 0), 1, 0x7effffff},
		{exponentialOf(most, most, 1, 0), 0, most},
		{exponentialOf(most, most, 1, 0), 1, inf},
		{exponentialOf(minus, half, 1, 0), 3, minus},
		{exponentialOf(zero, half, 1, 0), 0, zero},
		{exponentialOf(one, 0x3f7fffff, 1, 0), 100000000, 0x3b28f5ff},
		{exponentialOf(one, 0x3f7fffff, 1, 0), 123456789, 0x3a26e226},
		{exponentialOf(one, 0x3f800001, 1, 0), 123456789, 0x4a16003f},
	})
}

// TestCosineRounded: SC1, as TestPolynomialRounded; with the true cosine they come out otherwise too.
func TestCosineRounded(t *testing.T) {
	holdPoints(t, []point{
		{cosineOf(0xbf867eb1, 0xbf032843, 603), 323, 0xbe2b690f},
		{cosineOf(0x3e6c12ed, 0xbf3c7ccf, 216), 96, 0x3d856f30},
		{cosineOf(0x3f65abdb, 0xbec71dd9, 778), 462, 0x3dbeb563},
		{cosineOf(0xbe8b5fbd, 0xbf3f33b0, 224), 113, 0xbcfee852},
		{cosineOf(0xbf4a8b65, 0xbf413a1c, 792), 412, 0xbd58fbd5},
		{cosineOf(0x401dd463, 0xbf2f73d2, 280), 136, 0x3ef65fa6},
	})
}

// TestCosineSteps: SC1, alpha of either sign, at 0, half way, at the end and behind it, as far as may be.
func TestCosineSteps(t *testing.T) {
	holdPoints(t, []point{
		{cosineOf(0x40000000, 0x3e800000, 4), 0, 0x40000000},
		{cosineOf(0x40000000, 0x3e800000, 4), 1, 0x3fe3e1dc},
		{cosineOf(0x40000000, 0x3e800000, 4), 2, 0x3fa00000},
		{cosineOf(0x40000000, 0x3e800000, 4), 3, 0x3f383c49},
		{cosineOf(0x40000000, 0x3e800000, 4), 4, half},
		{cosineOf(0x40000000, 0x3e800000, 4), 5, half},
		{cosineOf(0x40000000, 0x3e800000, 4), maxCount, half},
		{cosineOf(0x40000000, 0xbe800000, 4), 0, 0x40000000},
		{cosineOf(0x40000000, 0xbe800000, 4), 1, 0x3fd12318},
		{cosineOf(0x40000000, 0xbe800000, 4), 2, 0x3f400000},
		{cosineOf(0x40000000, 0xbe800000, 4), 3, 0xbe0918c4},
		{cosineOf(0x40000000, 0xbe800000, 4), 4, 0xbf000000},
		{cosineOf(0x40000000, 0xbe800000, 4), 5, 0xbf000000},
		{cosineOf(0xc0000000, zero, 4), 4, minus},
		{cosineOf(0xc0000000, minus, 4), 4, minus},
		{cosineOf(0x40000000, minus, 4), 4, zero},
		{cosineOf(0x40000000, zero, 4), 4, zero},
		{cosineOf(zero, half, 4), 1, zero},
		{cosineOf(minus, half, 4), 1, minus},
		{cosineOf(zero, 0xbf000000, 4), 4, minus},
		{cosineOf(0x40000000, one, 4), 0, 0x40000000},
		{cosineOf(0x40000000, one, 4), 3, 0x40000000},
		{cosineOf(0x40000000, one, 4), 4, 0x40000000},
		{cosineOf(one, zero, 1), 0, one},
		{cosineOf(one, zero, 1), 1, zero},
		{cosineOf(one, zero, 1), 2, zero},
		{cosineOf(one, zero, 2), 1, half},
		{cosineOf(one, zero, 3), 1, 0x3f400000},
		{cosineOf(one, zero, 3), 2, 0x3e7ffffe},
		{cosineOf(one, zero, maxCount), 0, one},
		{cosineOf(one, zero, maxCount), 1, one},
		{cosineOf(one, zero, maxCount), 536870912, 0x3f5a827a},
		{cosineOf(one, zero, maxCount), 1 << 30, half},
		{cosineOf(one, zero, maxCount), 1<<30 - 1, half},
		{cosineOf(one, zero, maxCount), 1073741791, 0x3f000001},
		{cosineOf(one, zero, maxCount), 1073741888, half},
		{cosineOf(one, zero, maxCount), 1073741889, 0x3efffffc},
		{cosineOf(one, zero, maxCount), maxCount - 1, zero},
		{cosineOf(one, zero, maxCount), maxCount, zero},
		{cosineOf(0x3dcccccd, 0x3dcccccd, 10), 10, 0x3c23d70b},
		{cosineOf(0x3dcccccd, 0x3dcccccd, 10), 0, 0x3dcccccd},
		{cosineOf(0x3dcccccd, 0x4cbebc20, 10), 0, zero},
		{cosineOf(one, 0xccbebc20, 10), 0, zero},
		{cosineOf(one, 0xccbebc20, 10), 10, 0xccbebc20},
		{cosineOf(most, most, 4), 0, zero},
		{cosineOf(most, 0x40000000, 4), 0, most},
		{cosineOf(most, 0x40000000, 4), 4, inf},
		{cosineOf(most, 0xc0000000, 4), 4, minus | inf},
		{cosineOf(one, minus|most, 4), 0, zero},
		{cosineOf(one, most, 4), 0, zero},
		{cosineOf(one, most, 4), 2, 0x7effffff},
		{cosineOf(zero, most, 4), 0, zero},
	})
}

// TestInverseRounded: SC1, as TestPolynomialRounded.
func TestInverseRounded(t *testing.T) {
	holdPoints(t, []point{
		{inverseOf(0x3fe68032, 774), 864, 0x3fda2a5a},
		{inverseOf(0xbfbf49a4, 168), 612, 0xbf487200},
		{inverseOf(0x3ec2610a, 831), 9112, 0x3deacd80},
		{inverseOf(0xc01d59ba, 783), 24948, 0xbedf0222},
		{inverseOf(0xbfe4845b, 730), 39659, 0xbe7806ed},
		{inverseOf(0xbd84476b, 861), 25538, 0xbc424ea7},
	})
}

// TestInverseSteps: SC1, about steps, as far as may be; noughts and subnormal numbers.
func TestInverseSteps(t *testing.T) {
	holdPoints(t, []point{
		{inverseOf(three, 4), 0, three},
		{inverseOf(three, 4), 1, three},
		{inverseOf(three, 4), 3, three},
		{inverseOf(three, 4), 4, three},
		{inverseOf(three, 4), 5, 0x402bbae2},
		{inverseOf(three, 4), 16, 0x3fc00000},
		{inverseOf(three, 4), maxCount, 0x3907c3b6},
		{inverseOf(three, 1), 0, three},
		{inverseOf(three, 1), 1, three},
		{inverseOf(three, 1), 2, 0x4007c3b6},
		{inverseOf(three, 1), maxCount, 0x3887c3b6},
		{inverseOf(three, maxCount), 0, three},
		{inverseOf(three, maxCount), maxCount - 1, three},
		{inverseOf(three, maxCount), maxCount, three},
		{inverseOf(three, maxCount-1), maxCount, three},
		{inverseOf(three, 1<<30), maxCount, 0x4007c3b6},
		{inverseOf(three, 1<<30), 1<<30 - 1, three},
		{inverseOf(0xc0400000, 4), 64, 0xbf400000},
		{inverseOf(zero, 4), 64, zero},
		{inverseOf(minus, 4), 64, minus},
		{inverseOf(minus, 4), 0, minus},
		{inverseOf(0x00000001, 1), 4, zero},
		{inverseOf(0x00000001, 1), 3, 0x00000001},
		{inverseOf(0x80000001, 1), 4, minus},
		{inverseOf(most, 1), 4, 0x7effffff},
		{inverseOf(most, 1), 0, most},
	})
}
