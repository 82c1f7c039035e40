/- The reference's HeapRight: the text that has it here. -/
import Derived.Test.YtbmgjpdfmgcigabDoorXh
