package segment

// ruleCount is how many rules there are.
const ruleCount = 43

// rule tells what a line does at a place, and whether it tells of that place.
type rule func(at *place) (uint8, bool)

// rules tells the chapter's table, by the numbers that its rules have there: the
// first one that tells counts.
func rules() [ruleCount]rule {
	return [ruleCount]rule{
		(*place).behindBreak,         // 4
		(*place).withinReturn,        // 5
		(*place).behindLine,          // 5
		(*place).aheadOfSpace,        // 6, 7
		(*place).behindZeroSpace,     // 8
		(*place).behindJoiner,        // 8a
		(*place).besideWordJoiner,    // 11
		(*place).behindGlue,          // 12
		(*place).aheadOfGlue,         // 12a
		(*place).aheadOfClosing,      // 13
		(*place).behindOpening,       // 14
		(*place).behindOpeningQuote,  // 15a
		(*place).aheadOfClosingQuote, // 15b
		(*place).aheadOfDecimals,     // 15c
		(*place).aheadOfSeparator,    // 15d
		(*place).aheadOfNonstarter,   // 16
		(*place).betweenDashes,       // 17
		(*place).behindSpace,         // 18
		(*place).aheadOfQuote,        // 19
		(*place).behindQuote,         // 19
		(*place).aheadOfNarrowQuote,  // 19a
		(*place).behindNarrowQuote,   // 19a
		(*place).besideObject,        // 20
		(*place).behindFirstHyphen,   // 20a
		(*place).besideHyphen,        // 21
		(*place).behindHebrewHyphen,  // 21a
		(*place).slashHebrew,         // 21b
		(*place).aheadOfEllipsis,     // 22
		(*place).letterDigit,         // 23
		(*place).signIdeograph,       // 23a
		(*place).signLetter,          // 24
		(*place).numberSign,          // 25
		(*place).signNumber,          // 25
		(*place).hyphenDigit,         // 25
		(*place).numberDigit,         // 25
		(*place).withinSyllable,      // 26
		(*place).signSyllable,        // 27
		(*place).betweenLetters,      // 28
		(*place).separatorLetter,     // 29
		(*place).besideBracket,       // 30
		(*place).withinFlag,          // 30a
		(*place).withinPicture,       // 30b
		(*place).elsewhere,           // 31
	}
}

// elsewhere lets a line end wherever no other rule tells.
func (at *place) elsewhere() (uint8, bool) { return May, true }
