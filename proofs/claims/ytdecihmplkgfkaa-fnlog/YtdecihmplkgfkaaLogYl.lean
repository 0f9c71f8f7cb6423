/-
  Lists of laws.FnLog.
-/
import Derived.Test.YtdecihmplkgfkaaLogD
namespace Go.Proofs.Ytdecihmplkgfkaa

theorem okLog_ap {ss tt : List ByteArray} {en : ByteArray} (h : okLog ss tt = true) (he : en.size ≤ 5000) (hn : ss.length + tt.length < 4000) : okLog ss (tt ++ [en]) = true := by
  rw [okLog_eq] at h ⊢
  simp [okEs] at h ⊢
  exact ⟨by omega, h.2.1, h.2.2, he⟩

theorem okLog_sync {ss tt : List ByteArray} (h : okLog ss tt = true) : okLog (ss ++ tt) [] = true := by
  simpa [okLog] using h

theorem crash_len {ss tt : List ByteArray} (h : okLog ss tt = true) (keep : Int) : (crashL ss tt keep).length = ss.length + (min (max keep 0) tt.length).toNat := by
  unfold crashL
  rw [if_pos h, List.length_append, List.length_take]
  omega

theorem crash_sync {ss tt : List ByteArray} (h : okLog ss tt = true) : crashL ss tt tt.length = ss ++ tt := by
  unfold crashL
  rw [if_pos h, List.take_of_length_le (by omega)]

theorem crash_synced {ss tt : List ByteArray} (h : okLog ss tt = true) (keep : Int) : crashL (ss ++ tt) [] keep = ss ++ tt := by
  unfold crashL
  rw [if_pos (okLog_sync h)]
  simp

theorem crash_pre {ss tt : List ByteArray} (h : okLog ss tt = true) (keep : Int) : (ss ++ tt).take (crashL ss tt keep).length = crashL ss tt keep := by
  rw [crash_len h]
  unfold crashL
  rw [if_pos h, List.take_length_add_append]

end Go.Proofs.Ytdecihmplkgfkaa
