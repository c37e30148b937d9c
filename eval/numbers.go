package eval

import (
	"cmp"

	"sheet/api"
	"sheet/num"
)

func not(c call) api.Value { return truthValue(!c.truth(0)) }

func absolute(c call) api.Value {
	n := c.number(0)
	return numberValue(max(n, -n))
}

func floor(c call) api.Value { return numberValue(told(num.Floor(c.number(0)))) }

func sign(c call) api.Value { return wholeValue(cmp.Compare(c.number(0), 0)) }

func mod(c call) api.Value { return numberValue(told(num.Mod(c.number(0), c.number(1)))) }

func round(c call) api.Value { return numberValue(told(num.Round(c.number(0), c.whole(1)))) }

func asNumber(c call) api.Value { return numberValue(c.number(0)) }
