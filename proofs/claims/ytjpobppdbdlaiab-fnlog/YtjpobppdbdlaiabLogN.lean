/-
  (Its law lies in Steps.)
-/
import Derived.Test.YtjpobppdbdlaiabLogL
import Derived.Test.YtjpobppdbdlaiabSteps
