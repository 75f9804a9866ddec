import Derived.Test.YtellgkeakiikkaaLawV4
import Derived.Test.YtellgkeakiikkaaIV4A
import Derived.Deep.DeepCutAuto
set_option linter.unusedVariables false
set_option linter.unusedSimpArgs false
set_option maxRecDepth 100000
set_option maxHeartbeats 8000000
