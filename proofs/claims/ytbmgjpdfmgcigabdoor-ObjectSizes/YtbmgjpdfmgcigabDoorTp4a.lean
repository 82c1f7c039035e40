/- What slots take in memory: the text that has it here. -/
import Derived.Test.YtbmgjpdfmgcigabDoorTp5
