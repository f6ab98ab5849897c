/- Rows of words in blocks of their own, and rows of writes. -/
import Derived.Test.YtfllkhlnnihndaaClAr
import Derived.Test.YtfllkhlnnihndaaClRow
