/- Wide numbers, with Plus and Times. -/
import Derived.Test.YtlicdeppfhmfjaaDoorTrioB
import Derived.Test.YtlicdeppfhmfjaaDoorTimes
