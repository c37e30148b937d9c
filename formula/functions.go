package formula

import "strings"

const most = 30 // arguments of a function that takes any number of them

// takes tells how many arguments a function takes, at least and at most. Only func init changes it.
var takes = map[string][2]int{}

func init() {
	fill := func(least int, most int, names string) {
		for _, name := range strings.Fields(names) {
			takes[name] = [2]int{least, most}
		}
	}
	fill(1, most, "SUM COUNT MIN MAX AVERAGE AND OR CONCAT")
	fill(2, most, "CHOOSE")
	fill(0, 0, "NA")
	fill(1, 1, "NOT ABS INT SIGN LEN UPPER LOWER TRIM ISBLANK ISNUMBER ISTEXT ISERROR VALUE ROWS COLUMNS")
	fill(2, 2, "MOD ROUND EXACT FIND REPT IFERROR MATCH COUNTIF")
	fill(1, 2, "LEFT RIGHT")
	fill(2, 3, "IF")
	fill(3, 3, "MID INDEX")
}
