/- What is proved here: nothing: the texts that a reader of terms needs, together. No condition. -/
import Derived.Test.YtdlplmpjcemnoabDoorRnx
import Derived.Test.YtdlplmpjcemnoabDoorTks
import Derived.Test.YtdlplmpjcemnoabDoorOff
