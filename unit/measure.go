package unit

import (
	"isocline/api"
	"isocline/exact"
)

// measure is a unit without limits: any exponents, and any factor above 0.
type measure struct {
	e [7]int
	f exact.Ratio
}

// of returns the measure of a unit that Validate takes.
func of(u api.Unit) measure {
	return measure{u.E, exact.Of(u.F)}
}

// number returns x, which is above 0, without a dimension.
func number(x api.Rat) measure {
	return measure{f: exact.Of(x)}
}

func (m measure) times(k measure) measure {
	for i, n := range k.e {
		m.e[i] += n
	}
	m.f = m.f.Mul(k.f)
	return m
}

func (m measure) power(n int) measure {
	for i := range m.e {
		m.e[i] *= n
	}
	m.f = m.f.Power(n)
	return m
}

// unit returns the unit: ErrLarge if an exponent is beyond the limit, or the factor is not representable.
func (m measure) unit() (api.Unit, api.Errno) {
	if !fit(m.e) {
		return api.Unit{}, api.ErrLarge
	}
	f, e := m.f.Rat()
	if e != api.OK {
		return api.Unit{}, e
	}
	return api.Unit{E: m.e, F: f}, api.OK
}
