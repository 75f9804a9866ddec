import Derived.Test.YtellgkeakiikkaaAdd
import Derived.Test.YtellgkeakiikkaaLawV6
import Derived.Test.YtellgkeakiikkaaIV4A
import Derived.Deep.DeepCutAuto
import Derived.Test.YtellgkeakiikkaaIV4BM
import Derived.Test.YtellgkeakiikkaaMerged3
import Derived.Deep.RegionWith
set_option linter.unusedVariables false
set_option linter.unusedSimpArgs false
set_option maxRecDepth 100000
set_option maxHeartbeats 8000000
