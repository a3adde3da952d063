package adc

import (
	"aneroid/api"
	"aneroid/baro"
	"aneroid/disc"
	"aneroid/heat"
	"aneroid/label"
	"aneroid/mach"
	"aneroid/modes"
	"aneroid/pair"
	"aneroid/signs"
	"aneroid/speed"
	"aneroid/wind"
)

const (
	flagsNumber  = 184
	leastSetting = 7500
	mostSetting  = 10800
)

// warm reports whether the warm-up is over.
func (k *Computer) warm() bool {
	return k.tick > k.conf.Warm
}

// output returns the words of the values and of the flags, and both modes.
func (k *Computer) output(in api.Input, r [sensorCount]api.Reading) api.Output {
	blocked := k.watch(r)
	words, clipped := k.words(k.values(in, r), k.states(in, r))
	flags, _ := disc.Put(flagsNumber, k.marks(in, blocked, clipped), api.Normal)
	return api.Output{
		Words:    words,
		Discrete: flags,
		Mode:     [2]int{k.q.mode(), k.p.mode()},
	}
}

// watch steps both Signs with the impact pressure sensors.
func (k *Computer) watch(r [sensorCount]api.Reading) [2]int {
	var found [2]int
	for i, s := range k.signs {
		found[i] = s.Step(r[pitotSensor+i].Value, k.p.value)
	}
	return found
}

// values returns the values in the order of the labels.
func (k *Computer) values(in api.Input, r [sensorCount]api.Reading) []int64 {
	q, p := k.q.value, k.p.value
	height := k.air.Height(p)
	k.meter.Put(height)
	rate, _ := k.meter.Rate()
	number, _ := mach.At(max(q, 0), p)
	probe := r[heatSensor]
	outside := heat.Static(probe.Value, number, k.conf.Recovery)
	tas := speed.True(number, outside)
	if in.Fixed && k.q.good() && k.p.good() && probe.Err == api.OK {
		k.wind.Step(wind.Flow{Tas: tas, Heading: uint16(in.Track), North: in.North, East: in.East})
	}
	from, blows := k.wind.From()
	return []int64{
		height,
		baro.Corrected(&k.air, p, in.Baro),
		rate,
		speed.Calibrated(q),
		number,
		tas,
		probe.Value,
		outside,
		r[angleSensor].Value,
		blows,
		int64(from),
	}
}

// states returns the states of the values, in their order.
func (k *Computer) states(in api.Input, r [sensorCount]api.Reading) []int {
	p, q := k.p.state(), k.q.state()
	t, a := stateOf(r[heatSensor]), stateOf(r[angleSensor])
	both := combine(p, q)
	all := combine(both, t)
	blows := all
	if !in.Fixed {
		blows = api.NoData
	}
	return []int{p, p, p, q, both, all, t, all, a, blows, blows}
}

func (h *channel) state() int {
	switch {
	case h.good():
		return api.Normal
	case h.mode() == modes.Warming:
		return api.NoData
	}
	return api.Failure
}

func stateOf(r api.Reading) int {
	if r.Err != api.OK {
		return api.Failure
	}
	return api.Normal
}

// combine returns the worse one of two states, which is the smaller one of
// Failure, NoData and Normal.
func combine(a, b int) int {
	return min(a, b)
}

// words returns the words of the values, and whether one was clipped; such a
// word has the state Failure.
func (k *Computer) words(values []int64, states []int) ([]uint32, bool) {
	_, clipped, _ := label.Words(k.conf.Labels, values, states)
	overflow := false
	for i, c := range clipped {
		if c {
			states[i] = api.Failure
			overflow = true
		}
	}
	words, _, _ := label.Words(k.conf.Labels, values, states)
	return words, overflow
}

// marks returns the flags.
func (k *Computer) marks(in api.Input, blocked [2]int, overflow bool) disc.Marks {
	q, p := &k.q, &k.p
	return disc.Marks{
		q.tallies[0].Latched(), q.tallies[1].Latched(),
		p.tallies[0].Latched(), p.tallies[1].Latched(),
		q.verdict == pair.Differ, p.verdict == pair.Differ,
		q.mode() == modes.Synthetic, p.mode() == modes.Synthetic,
		q.mode() == modes.Lost, p.mode() == modes.Lost,
		blocked[0]&signs.Frozen != 0, blocked[1]&signs.Frozen != 0,
		blocked[0]&signs.Drained != 0, blocked[1]&signs.Drained != 0,
		overflow,
		!k.warm(),
		in.Baro < leastSetting || in.Baro > mostSetting,
		!in.Fixed,
		in.Reset,
	}
}
