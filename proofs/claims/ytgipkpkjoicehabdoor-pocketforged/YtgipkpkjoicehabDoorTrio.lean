/- Wide numbers, with Plus and Times. -/
import Derived.Test.YtgipkpkjoicehabDoorTrioB
import Derived.Test.YtgipkpkjoicehabDoorTimes
