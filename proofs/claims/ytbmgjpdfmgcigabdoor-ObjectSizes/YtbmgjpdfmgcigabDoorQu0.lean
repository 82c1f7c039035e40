/- What a number takes in memory: the texts that have it here. -/
import Derived.Test.YtbmgjpdfmgcigabDoorQu
import Derived.Test.YtbmgjpdfmgcigabDoorKf
