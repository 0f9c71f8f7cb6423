/-
  (Its law lies in Steps.)
-/
import Derived.Test.YtdecihmplkgfkaaLogL
import Derived.Test.YtdecihmplkgfkaaSteps
