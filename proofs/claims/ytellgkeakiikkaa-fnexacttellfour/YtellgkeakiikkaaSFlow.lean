import Derived.Test.YtellgkeakiikkaaCarry
import Derived.Test.YtellgkeakiikkaaBase
import Derived.BigQuiet
import Derived.Deep.DeepCutAuto
set_option linter.unusedVariables false
set_option linter.unusedSimpArgs false
set_option maxRecDepth 100000
set_option maxHeartbeats 8000000
