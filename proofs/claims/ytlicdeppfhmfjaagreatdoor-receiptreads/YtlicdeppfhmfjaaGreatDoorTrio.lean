/- Wide numbers, with Plus and Times. -/
import Derived.Test.YtlicdeppfhmfjaaGreatDoorTrioB
import Derived.Test.YtlicdeppfhmfjaaGreatDoorTimes
