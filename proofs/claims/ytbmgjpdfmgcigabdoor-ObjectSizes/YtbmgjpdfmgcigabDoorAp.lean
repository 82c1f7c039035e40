/- Appending onto a row of one's own: the texts that have it here. -/
import Derived.Test.YtbmgjpdfmgcigabDoorCc
import Derived.Test.YtbmgjpdfmgcigabDoorKf
