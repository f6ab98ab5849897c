/- Wide numbers, with Plus and Times. -/
import Derived.Test.YtlicdeppfhmfjabDoorTrioB
import Derived.Test.YtlicdeppfhmfjabDoorTimes
