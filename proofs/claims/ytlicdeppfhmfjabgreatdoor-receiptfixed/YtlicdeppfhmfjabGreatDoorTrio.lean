/- Wide numbers, with Plus and Times. -/
import Derived.Test.YtlicdeppfhmfjabGreatDoorTrioB
import Derived.Test.YtlicdeppfhmfjabGreatDoorTimes
