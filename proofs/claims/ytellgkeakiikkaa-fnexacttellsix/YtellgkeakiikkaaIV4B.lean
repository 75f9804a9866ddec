import Derived.Test.YtellgkeakiikkaaIV4BM
import Derived.Test.YtellgkeakiikkaaIV4
import Derived.Test.YtellgkeakiikkaaMerged2
import Derived.Test.YtellgkeakiikkaaGrowU
import Derived.Laws.CopyOwn
set_option linter.unusedVariables false
set_option linter.unusedSimpArgs false
set_option maxRecDepth 100000
set_option maxHeartbeats 8000000
