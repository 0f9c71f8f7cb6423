/-
  spec.FormThing and impl.FormThing give the same text.
-/
import Derived.Test.YtbelneejghdmoaaThing
import Derived.Test.YtbelneejghdmoaaBuild
namespace Go.Proofs.Ytbelneejghdmoaa
open Go.ChangeShapes Go.WideShapes Go.ChangeAt Go.RowKit

/-- All the strings' bytes. -/
def flat (ss : List ByteArray) : List UInt8 := ss.flatMap (fun s => s.data.toList)

theorem flat_take (ss : List ByteArray) (k : Nat) (s : ByteArray) (h : ss[k]? = some s) : flat (ss.take (k + 1)) = flat (ss.take k) ++ s.data.toList := by
  obtain ⟨hlt, rfl⟩ := List.getElem?_eq_some_iff.1 h
  unfold flat
  rw [List.take_succ_eq_append_getElem hlt, List.flatMap_append]
  simp

theorem flat_length (ss : List ByteArray) : (flat ss).length = bulk ss := by
  induction ss with
  | nil => rfl
  | cons s r ih =>
    unfold flat bulk at *
    rw [List.flatMap_cons, List.length_append, ih]
    simp

/-- The form of a thing. -/
def formB (t : ByteArray) (ss : List ByteArray) : List UInt8 := UInt8.ofNat ss.length :: (flat ss ++ t.data.toList)

theorem refsOk_at {wd : Int} {ss : List ByteArray} (h : refsOk wd ss = true) {i : Nat} {s : ByteArray} (hs : ss[i]? = some s) : (s.size : Int) = wd := by
  unfold refsOk at h
  rw [List.all_eq_true] at h
  have hlt := (List.getElem?_eq_some_iff.1 hs).1
  have := h i (by simpa using hlt)
  unfold refAt at this
  rw [hs] at this
  simp at this
  exact this.1

theorem bulk_const (ss : List ByteArray) (n : Nat) (h : ∀ s ∈ ss, s.size = n) : bulk ss = ss.length * n := by
  induction ss with
  | nil => simp [bulk]
  | cons s r ih =>
    have h1 := h s (by simp)
    have h2 := ih (fun s hs => h s (by simp [hs]))
    unfold bulk at *
    rw [List.map_cons, List.sum_cons, h2, h1, List.length_cons, Nat.add_mul, Nat.one_mul, Nat.add_comm]

structure ThingOk (t : ByteArray) (ss : List ByteArray) (wd : Int) : Prop where
  lo : 1 ≤ wd
  hi : wd ≤ 8
  text : t.size ≤ 2000
  refs : ss.length ≤ 30
  all : refsOk wd ss = true

theorem okThing_parts {t : ByteArray} {ss : List ByteArray} {wd : Int} (h : okThing t ss wd = true) : ThingOk t ss wd := by
  unfold okThing at h
  simp at h
  exact ⟨h.1.1, h.1.2, h.2.1, h.2.2.1, h.2.2.2⟩

theorem ThingOk.size {t : ByteArray} {ss : List ByteArray} {wd : Int} (h : ThingOk t ss wd) {i : Nat} {s : ByteArray} (hs : ss[i]? = some s) : (s.size : Int) = wd := refsOk_at h.all hs

theorem ThingOk.bulk {t : ByteArray} {ss : List ByteArray} {wd : Int} (h : ThingOk t ss wd) : bulk ss = ss.length * wd.toNat := by
  refine bulk_const ss _ fun s hs => ?_
  obtain ⟨i, hi⟩ := List.getElem?_of_mem hs
  have := h.size hi
  omega

theorem ThingOk.bulk_le {t : ByteArray} {ss : List ByteArray} {wd : Int} (h : ThingOk t ss wd) : Ytbelneejghdmoaa.bulk ss ≤ 240 := by
  have h1 := h.bulk
  have h2 : ss.length * wd.toNat ≤ 30 * 8 := Nat.mul_le_mul h.refs (by have := h.hi; omega)
  omega

theorem Try.infoByteF : (Try.prog.info? 5).map (fun i => (i.zero, i.size, i.bytes)) = some (some (.int .u8 0), 1, 1) := by kernel_rfl

theorem head_cell (n : Nat) (h : n ≤ 30) : Value.int .u8 (n : Int) = .int .u8 ((UInt8.ofNat n).toNat : Int) := by
  have : (UInt8.ofNat n).toNat = n := by simp; omega
  rw [this]

theorem form_snoc (ss : List ByteArray) (k : Nat) (s : ByteArray) (h : ss[k]? = some s) (c : UInt8) :
    Lib.byteCells (c :: flat (ss.take k)) ++ Lib.strCells s = Lib.byteCells (c :: flat (ss.take (k + 1))) := by
  rw [flat_take ss k s h, Lib.strCells_eq, ← Lib.byteCells_append]; rfl

set_option maxHeartbeats 1000000 in
theorem sForm_yes (t : ByteArray) (a : Option Addr) (cap : Nat) (ss : List ByteArray) (wd : Int) (w : World) (hrow : SRow w w.heap.size a ss) (hok : okThing t ss wd = true) :
    Calls Try.prog 83 #[.agg #[.string t, .slice a ss.length cap], .int .i64 wd] w fun e w' => e = .returned (.string ⟨(formB t ss).toArray⟩) ∧ Below w.heap.size w w' := by
  have hp := okThing_parts hok
  have hbk := hp.bulk_le
  have h30 := hp.refs
  have h2000 := hp.text
  have hhd : Hid _ := head_cell ss.length h30
  obtain ⟨i0, hi, hz0, hz1, hz2⟩ := info_parts Try.infoByteF
  have hb0 : Below w.heap.size w (w.alloc (.cells #[.string t, .slice a ss.length cap] 90)) := (Below.refl _ _).alloc (Nat.le_refl _) _
  go_enter Try.func83, Try.ntmps83
  go_wp2_with fail
  refine (sThingOk_any t a cap ss wd _ (hrow.below' hb0) (by omega) (by unfold maxLen; omega)).mono ?_
  rintro e w1 ⟨rfl, hb1⟩
  rw [hok]
  obtain ⟨hc1, hf1⟩ := bcell hb1
  have hz := hb1.size
  simp at hz
  go_wp2
  have hown0 : (w1.alloc (.cells #[.int .u8 ss.length] 5)).ownsRow (w.heap.size + 1) 5 1 (.slice (some ⟨w1.heap.size, 0, none⟩) 1 1) 1 (Lib.byteCells (UInt8.ofNat ss.length :: flat (ss.take 0))) := by
    have := World.ownsRow_lit (base := w.heap.size + 1) (e := 5) (size := 1) w1 #[.int .u8 ss.length] 1 hz (by simp [maxLen]) rfl
    simpa [Lib.byteCells, flat, head_cell ss.length h30] using this
  have hbel0 : Below (w.heap.size + 1) (w.alloc (.cells #[.string t, .slice a ss.length cap] 90)) (w1.alloc (.cells #[.int .u8 ss.length] 5)) := by
    have := hb1.alloc (by simpa using hz) (.cells #[.int .u8 ss.length] 5)
    simpa using this
  go_loopw [5, 6] (fun out i wr => ∃ (k g c : Nat), k ≤ ss.length ∧ i = .int .i64 k ∧ out = .slice (some ⟨g, 0, none⟩) (1 + bulk (ss.take k)) c ∧
      wr.ownsRow (w.heap.size + 1) 5 1 (.slice (some ⟨g, 0, none⟩) (1 + bulk (ss.take k)) c) (1 + bulk (ss.take k)) (Lib.byteCells (UInt8.ofNat ss.length :: flat (ss.take k))) ∧
      Below (w.heap.size + 1) (w.alloc (.cells #[.string t, .slice a ss.length cap] 90)) wr) (fun _ i _ => ss.length - (intOf i).toNat)
  case atStart => exact ⟨0, w1.heap.size, 1, Nat.zero_le _, rfl, by simp [bulk], by simpa [bulk] using hown0, hbel0⟩
  case round =>
    clear hown0 hbel0 hc1 hf1 hb1
    obtain ⟨k, g, c, hk, rfl, rfl, hown, hbel⟩ := hrel
    have hbox : wr.cell? ⟨w.heap.size, 1, none⟩ = some (.slice a ss.length cap) := by
      rw [hbel.cell (p := ⟨w.heap.size, 1, none⟩) (by simp)]; simp
    have hsz := hbel.size
    simp at hsz
    have hble := bulk_le ss k
    by_cases hlt : k < ss.length
    · obtain ⟨b, off, ha, hbw, hc⟩ := hrow.at hlt
      subst ha
      have hgk : Hid (ss[k]? = some ss[k]) := List.getElem?_eq_getElem hlt
      have hck : wr.cell? ⟨b, off + k, none⟩ = some (.string ss[k]) := by
        rw [hbel.cell (p := ⟨b, off + k, none⟩) (by simp; omega), World.cell?_alloc_past _ _ _ hbw]
        exact hc k _ hgk
      have hbt : Hid _ := bulk_take ss k _ hgk
      have hfs : Hid _ := form_snoc ss k _ hgk (UInt8.ofNat ss.length)
      have hle2 := bulk_le ss (k + 1)
      rw [hbt.out] at hle2
      clear hc hrow
      generalize ss[k] = s at *
      go_wp2_with (at_builtin; refine Lib.wpList_append_own_string _ rfl _ _ 130 9 rfl (w.heap.size + 1) 5 i0 Try.underlying130 Try.underlying9 hi hz0 hz1 hz2 _ _ _ rfl hown s rfl ?c3 ?c4 ?c5 ?_)
      case c3 => unfold maxLen; omega
      case c4 => omega
      case c5 => omega
      intro v' w2 hown' hgrow _
      obtain ⟨g', c', hv', hg1, hg2⟩ := hown'.form (by omega)
      subst hv'
      have hb2 := hbel.grown hgrow (by omega) (fun k hk => (hown.lt k hk).1)
      rw [hfs.out] at hown'
      clear hown hbel hgrow hbox hck
      go_wp2
      refine ⟨⟨k + 1, g', c', by omega, by go_num, ?_, ?_, hb2⟩, by simp [intOf]; omega⟩
      · rw [hbt.out, Nat.add_assoc]
      · rw [hbt.out, ← Nat.add_assoc]; exact hown'
    · have hbox0 : wr.cell? ⟨w.heap.size, 0, none⟩ = some (.string t) := by
        rw [hbel.cell (p := ⟨w.heap.size, 0, none⟩) (by simp)]; simp
      rw [List.take_of_length_le (by omega)] at hown ⊢
      go_wp2_with (at_builtin; refine Lib.wpList_append_own_string _ rfl _ _ 130 9 rfl (w.heap.size + 1) 5 i0 Try.underlying130 Try.underlying9 hi hz0 hz1 hz2 _ _ _ rfl hown t rfl ?c3 ?c4 ?c5 ?_)
      case c3 => unfold maxLen; omega
      case c4 => omega
      case c5 => omega
      intro v' w2 hown' hgrow _
      obtain ⟨g', c', hv', hg1, hg2⟩ := hown'.form (by omega)
      subst hv'
      have hb2 := hbel.grown hgrow (by omega) (fun k hk => (hown.lt k hk).1)
      have hcs : Lib.byteCells (UInt8.ofNat ss.length :: flat ss) ++ Lib.strCells t = Lib.byteCells (formB t ss) := by
        rw [Lib.strCells_eq, ← Lib.byteCells_append]; rfl
      rw [hcs] at hown'
      have hlen : 1 + bulk ss + t.size = (formB t ss).length := by
        have := flat_length ss
        simp [formB, this]; omega
      rw [hlen] at hown' ⊢
      have hcv := run_convert_bytes_back (P := Try.prog) w2 130 9 5 ⟨g', 0, none⟩ c' (formB t ss) Try.underlying130 Try.underlying5 Try.underlying9 (fun j hj => hown'.cells rfl j _ (by simp [Lib.byteCells, hj]))
      clear hown hbel hgrow hbox hbox0 hown'
      go_wp2
      go_ret
      refine ⟨rfl, ?_⟩
      exact hb0.trans (hb2.mono (by omega))

theorem sForm_no (t : ByteArray) (a : Option Addr) (cap : Nat) (ss : List ByteArray) (wd : Int) (w : World) (hrow : SRow w w.heap.size a ss) (hok : okThing t ss wd = false) (hl : ss.length ≤ 1048576) (ht : t.size ≤ maxLen) :
    Calls Try.prog 83 #[.agg #[.string t, .slice a ss.length cap], .int .i64 wd] w fun e w' => e = .returned (.string ByteArray.empty) ∧ Below w.heap.size w w' := by
  have hb0 : Below w.heap.size w (w.alloc (.cells #[.string t, .slice a ss.length cap] 90)) := (Below.refl _ _).alloc (Nat.le_refl _) _
  go_enter Try.func83, Try.ntmps83
  go_wp2_with fail
  refine (sThingOk_any t a cap ss wd _ (hrow.below' hb0) hl ht).mono ?_
  rintro e w1 ⟨rfl, hb1⟩
  rw [hok]
  go_wp2
  go_ret
  exact ⟨rfl, hb0.trans (hb1.mono (by simp))⟩

theorem iForm_no (t : ByteArray) (a : Option Addr) (cap : Nat) (ss : List ByteArray) (wd : Int) (w : World) (hrow : SRow w w.heap.size a ss) (hok : okThing t ss wd = false) (hl : ss.length ≤ 1048576) (ht : t.size ≤ maxLen) :
    Calls Try.prog 91 #[.agg #[.string t, .slice a ss.length cap], .int .i64 wd] w fun e w' => e = .returned (.string ByteArray.empty) ∧ Below w.heap.size w w' := by
  have hb0 : Below w.heap.size w (w.alloc (.cells #[.string t, .slice a ss.length cap] 90)) := (Below.refl _ _).alloc (Nat.le_refl _) _
  go_enter Try.func91, Try.ntmps91
  go_wp2_with fail
  refine (ivalidThing_any t a cap ss wd _ (hrow.below' hb0) hl ht).mono ?_
  rintro e w1 ⟨rfl, rfl⟩
  rw [hok]
  go_wp2
  go_ret
  exact ⟨rfl, hb0.alloc (by simp) _⟩

set_option maxHeartbeats 1000000 in
theorem iForm_yes (t : ByteArray) (a : Option Addr) (cap : Nat) (ss : List ByteArray) (wd : Int) (w : World) (hrow : SRow w w.heap.size a ss) (hok : okThing t ss wd = true) :
    Calls Try.prog 91 #[.agg #[.string t, .slice a ss.length cap], .int .i64 wd] w fun e w' => e = .returned (.string ⟨(formB t ss).toArray⟩) ∧ Below w.heap.size w w' := by
  have hp := okThing_parts hok
  have hbk := hp.bulk_le
  have h30 := hp.refs
  have h2000 := hp.text
  have hb0 : Below w.heap.size w (w.alloc (.cells #[.string t, .slice a ss.length cap] 90)) := (Below.refl _ _).alloc (Nat.le_refl _) _
  obtain ⟨W, hW⟩ : ∃ W, W = (w.alloc (.cells #[.string t, .slice a ss.length cap] 90)).alloc (.cells #[.string t, .slice a ss.length cap] 90) := ⟨_, rfl⟩
  have hWb : Below w.heap.size w W := by rw [hW]; exact hb0.alloc (by simp) _
  have hWs : W.heap.size = w.heap.size + 1 + 1 := by rw [hW]; simp
  have hW0 : W.cell? ⟨w.heap.size, 0, none⟩ = some (.string t) := by rw [hW]; simp
  have hW1 : W.cell? ⟨w.heap.size, 1, none⟩ = some (.slice a ss.length cap) := by rw [hW]; simp
  have hrowW := hrow.below hWb
  have HW : Hid _ := hW
  go_enter Try.func91, Try.ntmps91
  go_wp2_with fail
  refine (ivalidThing_any t a cap ss wd _ (hrow.below' hb0) (by omega) (by unfold maxLen; omega)).mono ?_
  rintro e w1 ⟨rfl, hw1⟩
  rw [← HW.out] at hw1
  subst hw1
  clear hW
  rw [hok]
  have hbs := Lib.fresh_isBuilder 140 5 w1
  have hbl : Below w1.heap.size w1 (w1.alloc (.cells #[.pointer none, .slice none 0 0] 140)) := (Below.refl _ _).alloc (Nat.le_refl _) _
  rw [hWs] at hbs hbl
  go_wp2_with fail
  refine (writeByte_any (w.heap.size + 1 + 1) (w.heap.size + 1 + 1) [] _ _ hbs (by simp) (by simp [hWs])).mono ?_
  rintro e w2 ⟨rfl, hbs2, hb2⟩
  have hbw := hbl.trans hb2
  have hbx1 : w2.cell? ⟨w.heap.size, 1, none⟩ = some (.slice a ss.length cap) := (hbw.cell (p := ⟨w.heap.size, 1, none⟩) (by simp; omega)).trans hW1
  have hhd : [] ++ [Value.int .u8 (ss.length : Int)] = Lib.byteCells (UInt8.ofNat ss.length :: flat (ss.take 0)) := by
    simp [Lib.byteCells, flat, head_cell ss.length h30]
  rw [hhd] at hbs2
  clear hbs hbl hb2 hhd
  go_wp2
  go_loopw [20] (fun i wr => ∃ (k : Nat), k ≤ ss.length ∧ i = .int .i64 k ∧ Lib.IsBuilder 140 5 (w.heap.size + 1 + 1) (w.heap.size + 1 + 1) (Lib.byteCells (UInt8.ofNat ss.length :: flat (ss.take k))) wr ∧
      Below (w.heap.size + 1 + 1) w1 wr) (fun i _ => ss.length - (intOf i).toNat)
  case atStart => exact ⟨0, Nat.zero_le _, rfl, hbs2, hbw⟩
  case round =>
    clear hbs2 hbw hbx1
    obtain ⟨k, hk, rfl, hbs, hbel⟩ := hrel
    have hsz := hbel.size
    have hble := bulk_le ss k
    have hfl := flat_length (ss.take k)
    have hcl : Hid ((Lib.byteCells (UInt8.ofNat ss.length :: flat (ss.take k))).length = 1 + bulk (ss.take k)) := by
      show _ = _
      rw [Lib.byteCells_length, List.length_cons, hfl]; omega
    clear hfl
    by_cases hlt : k < ss.length
    · obtain ⟨b, off, ha, hbw, hc⟩ := hrowW.at hlt
      subst ha
      have hgk : Hid (ss[k]? = some ss[k]) := List.getElem?_eq_getElem hlt
      have hck : wr.cell? ⟨b, off + k, none⟩ = some (.string ss[k]) := by
        rw [hbel.cell (p := ⟨b, off + k, none⟩) (by simp; omega)]
        exact hc k _ hgk
      have hbt : Hid _ := bulk_take ss k _ hgk
      have hfs : Hid _ := form_snoc ss k _ hgk (UInt8.ofNat ss.length)
      have hle2 := bulk_le ss (k + 1)
      rw [hbt.out] at hle2
      clear hc hrow hrowW
      generalize ss[k] = s at *
      go_wp2_with fail
      refine (writeString_any (w.heap.size + 1 + 1) (w.heap.size + 1 + 1) _ s _ hbs (by rw [hcl.out]; omega) (by omega)).mono ?_
      rintro e w3 ⟨rfl, hbs3, hb3⟩
      rw [← Lib.strCells_eq, hfs.out] at hbs3
      have hb4 := hbel.trans hb3
      clear hbs hbel hb3 hck
      go_wp2
      exact ⟨⟨k + 1, by omega, by go_num, hbs3, hb4⟩, by simp [intOf]; omega⟩
    · have hbx0 : wr.cell? ⟨w.heap.size, 0, none⟩ = some (.string t) := (hbel.cell (p := ⟨w.heap.size, 0, none⟩) (by simp; omega)).trans hW0
      rw [List.take_of_length_le (by omega)] at hbs hcl hble
      go_wp2_with fail
      refine (writeString_any (w.heap.size + 1 + 1) (w.heap.size + 1 + 1) _ t _ hbs (by rw [hcl.out]; omega) (by omega)).mono ?_
      rintro e w3 ⟨rfl, hbs3, hb3⟩
      have hcs : Lib.byteCells (UInt8.ofNat ss.length :: flat ss) ++ Lib.byteCells t.data.toList = Lib.byteCells (formB t ss) := by
        rw [← Lib.byteCells_append]; rfl
      rw [hcs] at hbs3
      have hb4 := hbel.trans hb3
      have hsz3 := hb4.size
      clear hbs hbel hb3 hcs hcl hbx0
      go_wp2_with fail
      refine (Try.Builder_String_any (w.heap.size + 1 + 1) (w.heap.size + 1 + 1) _ _ hbs3 (by omega)).mono ?_
      rintro e w4 ⟨rfl, hb5⟩
      go_wp2
      go_ret
      exact ⟨rfl, hWb.trans ((hb4.trans hb5).mono (by omega))⟩

/-- FormThing's answer. -/
def formTxt (t : ByteArray) (ss : List ByteArray) (wd : Int) : ByteArray := if okThing t ss wd = true then ⟨(formB t ss).toArray⟩ else ByteArray.empty

theorem sForm_any (t : ByteArray) (a : Option Addr) (cap : Nat) (ss : List ByteArray) (wd : Int) (w : World) (hrow : SRow w w.heap.size a ss) (hl : ss.length ≤ 1048576) (ht : t.size ≤ maxLen) :
    Calls Try.prog 83 #[.agg #[.string t, .slice a ss.length cap], .int .i64 wd] w fun e w' => e = .returned (.string (formTxt t ss wd)) ∧ Below w.heap.size w w' := by
  cases hok : okThing t ss wd with
  | true => rw [show formTxt t ss wd = ⟨(formB t ss).toArray⟩ from by unfold formTxt; rw [if_pos hok]]; exact sForm_yes t a cap ss wd w hrow hok
  | false => rw [show formTxt t ss wd = ByteArray.empty from by unfold formTxt; rw [if_neg (by rw [hok]; decide)]]; exact sForm_no t a cap ss wd w hrow hok hl ht

theorem iForm_any (t : ByteArray) (a : Option Addr) (cap : Nat) (ss : List ByteArray) (wd : Int) (w : World) (hrow : SRow w w.heap.size a ss) (hl : ss.length ≤ 1048576) (ht : t.size ≤ maxLen) :
    Calls Try.prog 91 #[.agg #[.string t, .slice a ss.length cap], .int .i64 wd] w fun e w' => e = .returned (.string (formTxt t ss wd)) ∧ Below w.heap.size w w' := by
  cases hok : okThing t ss wd with
  | true => rw [show formTxt t ss wd = ⟨(formB t ss).toArray⟩ from by unfold formTxt; rw [if_pos hok]]; exact iForm_yes t a cap ss wd w hrow hok
  | false => rw [show formTxt t ss wd = ByteArray.empty from by unfold formTxt; rw [if_neg (by rw [hok]; decide)]]; exact iForm_no t a cap ss wd w hrow hok hl ht

end Go.Proofs.Ytbelneejghdmoaa
