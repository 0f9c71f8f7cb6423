/-
  spec.l5Below: what can be reached.
-/
import Derived.Test.YtbelneejghdmoaaStReach
import Derived.Test.YtbelneejghdmoaaCls
import Derived.Test.YtbelneejghdmoaaMarkS
namespace Go.Proofs.Ytbelneejghdmoaa
open Go.ChangeShapes Go.WideShapes Go.ChangeAt Go.RowKit

theorem mem_addS {o : List ByteArray} {s x : ByteArray} : x ∈ addS o s ↔ x ∈ o ∨ x = s := by
  unfold addS
  split
  · rename_i h
    rw [List.any_eq_true] at h
    obtain ⟨y, hy, e⟩ := h
    simp at e
    subst e
    exact ⟨.inl, fun h => h.elim id (fun e => e ▸ hy)⟩
  · simp

theorem nodup_addS {o : List ByteArray} {s : ByteArray} (h : o.Nodup) : (addS o s).Nodup := by
  unfold addS
  split
  · exact h
  · rename_i hn
    rw [List.nodup_append]
    refine ⟨h, by simp, fun a ha b hb e => hn ?_⟩
    simp at hb
    rw [List.any_eq_true]
    exact ⟨a, ha, by simp [e, hb]⟩

theorem mem_fold {xs o : List ByteArray} {x : ByteArray} : x ∈ xs.foldl addS o ↔ x ∈ o ∨ x ∈ xs := by
  induction xs generalizing o with
  | nil => simp
  | cons y ys ih =>
    rw [List.foldl_cons, ih, mem_addS]
    simp only [List.mem_cons]
    constructor
    · rintro ((h | h) | h)
      · exact .inl h
      · exact .inr (.inl h)
      · exact .inr (.inr h)
    · rintro (h | h | h)
      · exact .inl (.inl h)
      · exact .inl (.inr h)
      · exact .inr h

theorem nodup_fold {xs o : List ByteArray} (h : o.Nodup) : (xs.foldl addS o).Nodup := by
  induction xs generalizing o with
  | nil => exact h
  | cons y ys ih => exact ih (nodup_addS h)

theorem fold_get {xs o : List ByteArray} {i : Nat} {x : ByteArray} (h : o[i]? = some x) : (xs.foldl addS o)[i]? = some x := by
  induction xs generalizing o with
  | nil => exact h
  | cons y ys ih =>
    refine ih ?_
    unfold addS
    split
    · exact h
    · rw [List.getElem?_append_left (List.getElem?_eq_some_iff.1 h).1]
      exact h

theorem nodup_le {l : List ByteArray} (h : l.Nodup) : ∀ {u : List ByteArray}, (∀ x ∈ l, x ∈ u) → l.length ≤ u.length := by
  induction l with
  | nil => intro u _; simp
  | cons x xs ih =>
    intro u hs
    obtain ⟨hx, hn⟩ := List.nodup_cons.1 h
    obtain ⟨a, b, rfl⟩ := List.append_of_mem (hs x (by simp))
    have := ih hn (u := a ++ b) (fun y hy => by
      have hyu := hs y (by simp [hy])
      have hne : y ≠ x := fun e => hx (by rw [← e]; exact hy)
      simp only [List.mem_append, List.mem_cons] at hyu ⊢
      rcases hyu with h | h | h
      · exact .inl h
      · exact absurd h hne
      · exact .inr h)
    simp only [List.length_cons, List.length_append] at this ⊢
    omega

/-- What can be reached from some sums, these too. -/
inductive Reach (ks : List Kd) (from' : List ByteArray) : ByteArray → Prop
  | here {x : ByteArray} : x ∈ from' → Reach ks from' x
  | step {x y : ByteArray} {u : Kd} : Reach ks from' y → u ∈ ks → u.sum = y → x ∈ u.refs → Reach ks from' x

/-- All that may come into the list. -/
def pool (ks : List Kd) (from' : List ByteArray) : List ByteArray := from' ++ ks.flatMap (·.refs)

theorem pool_length {ks : List Kd} {from' : List ByteArray} (h : ∀ k ∈ ks, k.refs.length ≤ 30) : (pool ks from').length ≤ from'.length + 30 * ks.length := by
  unfold pool
  rw [List.length_append]
  have : (ks.flatMap (·.refs)).length ≤ 30 * ks.length := by
    induction ks with
    | nil => simp
    | cons k ks ih =>
      have h1 := ih (fun k hk => h k (by simp [hk]))
      have h2 := h k (by simp)
      rw [List.flatMap_cons, List.length_append, List.length_cons]
      omega
  omega

/-- The list on its way: the first i of it are gone through. -/
structure Bel (ks : List Kd) (from' : List ByteArray) (i : Nat) (O : List ByteArray) : Prop where
  nd : O.Nodup
  sub : ∀ x ∈ O, Reach ks from' x
  pool : ∀ x ∈ O, x ∈ pool ks from'
  base : ∀ x ∈ from', x ∈ O
  shut : ∀ j x u, j < i → O[j]? = some x → u ∈ ks → u.sum = x → ∀ r ∈ u.refs, r ∈ O

theorem Bel.reach {ks : List Kd} {from' O : List ByteArray} (h : Bel ks from' O.length O) {x : ByteArray} : x ∈ O ↔ Reach ks from' x := by
  refine ⟨h.sub x, fun hr => ?_⟩
  induction hr with
  | here hx => exact h.base _ hx
  | step _ hu hs hx ih =>
    obtain ⟨j, hj⟩ := List.getElem?_of_mem ih
    exact h.shut j _ _ (List.getElem?_eq_some_iff.1 hj).1 hj hu hs _ hx

theorem Bel.start (ks : List Kd) (from' : List ByteArray) : Bel ks from' 0 (from'.foldl addS []) :=
  ⟨nodup_fold List.nodup_nil, fun x hx => .here (by simpa using mem_fold.1 hx), fun x hx => by unfold Go.Proofs.Ytbelneejghdmoaa.pool; have := mem_fold.1 hx; simp at this; simp [this], fun x hx => mem_fold.2 (.inr hx), fun j x u hj => by omega⟩

theorem Bel.skip {ks : List Kd} {from' O : List ByteArray} {i : Nat} (h : Bel ks from' i O) {x : ByteArray} (hx : O[i]? = some x) (hno : ¬ There ks x) : Bel ks from' (i + 1) O :=
  ⟨h.nd, h.sub, h.pool, h.base, fun j y u hj hy hu hs => by
    rcases Nat.lt_or_ge j i with h' | h'
    · exact h.shut j y u h' hy hu hs
    · obtain rfl : j = i := by omega
      rw [hx] at hy
      cases hy
      exact absurd ⟨u, hu, hs⟩ hno⟩

theorem Bel.go {ks : List Kd} {from' O : List ByteArray} {i : Nat} (h : Bel ks from' i O) {x : ByteArray} {u : Kd} (hx : O[i]? = some x) (hu : u ∈ ks) (hs : u.sum = x) (huniq : ∀ v ∈ ks, v.sum = x → v = u) : Bel ks from' (i + 1) (u.refs.foldl addS O) := by
  refine ⟨nodup_fold h.nd, fun y hy => ?_, fun y hy => ?_, fun y hy => mem_fold.2 (.inl (h.base y hy)), fun j y v hj hy hv hvs r hr => ?_⟩
  · rcases mem_fold.1 hy with hy | hy
    · exact h.sub y hy
    · exact .step (h.sub x (List.mem_of_getElem? hx)) hu hs hy
  · rcases mem_fold.1 hy with hy | hy
    · exact h.pool y hy
    · unfold Go.Proofs.Ytbelneejghdmoaa.pool
      exact List.mem_append.2 (.inr (List.mem_flatMap.2 ⟨u, hu, hy⟩))
  · have hjl : j < O.length := by have := (List.getElem?_eq_some_iff.1 hx).1; omega
    have hyO : O[j]? = some y := by
      rw [List.getElem?_eq_getElem hjl]
      have := fold_get (xs := u.refs) (List.getElem?_eq_getElem hjl)
      rw [this] at hy
      exact hy
    rcases Nat.lt_or_ge j i with h' | h'
    · exact mem_fold.2 (.inl (h.shut j y v h' hyO hv hvs r hr))
    · obtain rfl : j = i := by omega
      rw [hx] at hyO
      cases hyO
      obtain rfl := huniq v hv hvs
      exact mem_fold.2 (.inr hr)

set_option maxRecDepth 20000 in
set_option maxHeartbeats 8000000 in
theorem sBelow_any (wd now given births : Int) (a : Option Addr) (ac : Nat) (P L : Value) (ks : List Kd) (f : Option Addr) (fc : Nat) (fr : List ByteArray) (w : World) (hrow : KRow w w.heap.size a ks) (hfr : SRow w w.heap.size f fr) (hl : ks.length ≤ 600) (hfl : fr.length ≤ 300) (hr30 : ∀ k ∈ ks, k.refs.length ≤ 30)
    (huniq : ∀ u ∈ ks, ∀ v ∈ ks, u.sum = v.sum → u = v) :
    Calls Try.prog 73 #[.agg #[.int .i64 wd, .int .i64 now, .int .i64 given, .int .i64 births, .slice a ks.length ac, P, L], .slice f fr.length fc] w fun e w' => ∃ g c R, e = .returned (.slice (some ⟨g, 0, none⟩) (List.length R) c) ∧ w'.ownsRow (w.heap.size + 1) 9 1 (.slice (some ⟨g, 0, none⟩) R.length c) R.length (R.map Value.string) ∧ Bel ks fr R.length R ∧ Below w.heap.size w w' := by
  obtain ⟨i0, hi, hz0, hz1, hz2⟩ := info_parts Try.infoStr
  have HKR : Hid _ := hrow
  have HFR : Hid _ := hfr
  have hpool := pool_length (from' := fr) hr30
  have HU : Hid _ := And.intro huniq hr30
  have hx := SBox.new w wd now given births (.slice a ks.length ac) P L 33
  have hb0 : Below w.heap.size w (w.alloc (.cells #[.int .i64 wd, .int .i64 now, .int .i64 given, .int .i64 births, .slice a ks.length ac, P, L] 33)) := (Below.refl _ _).alloc (Nat.le_refl _) _
  clear hrow hfr huniq hr30
  go_enter Try.func73, Try.ntmps73
  go_wp2
  go_loopw [5, 6] (fun v i wr => ∃ (k g c : Nat), k ≤ fr.length ∧ i = .int .i64 k ∧ v = .slice (some ⟨g, 0, none⟩) ((fr.take k).foldl addS []).length c ∧ Hid (wr.ownsRow (w.heap.size + 1) 9 1 (.slice (some ⟨g, 0, none⟩) ((fr.take k).foldl addS []).length c) ((fr.take k).foldl addS []).length (((fr.take k).foldl addS []).map Value.string)) ∧ Below w.heap.size w wr ∧ Hid (SBox wr w.heap.size wd now given births (.slice a ks.length ac) P L)) (fun _ i _ => fr.length - (intOf i).toNat)
  case atStart =>
    refine ⟨0, w.heap.size + 1, 0, Nat.zero_le _, rfl, by simp, ?_, hb0.alloc hb0.size _, hx.keep ((Below.refl _ _).alloc (Nat.le_refl _) _) hx.2.2.2.2.2.2.2⟩
    have := World.ownsRow_lit (e := 9) (w.alloc (.cells #[.int .i64 wd, .int .i64 now, .int .i64 given, .int .i64 births, .slice a ks.length ac, P, L] 33)) #[] (size := 1) 0 (base := w.heap.size + 1) (by simp) (by simp [maxLen]) rfl
    rw [show (w.alloc (.cells #[.int .i64 wd, .int .i64 now, .int .i64 given, .int .i64 births, .slice a ks.length ac, P, L] 33)).heap.size = w.heap.size + 1 from by simp] at this
    exact this
  case round =>
    clear hx
    obtain ⟨k, g, c, hk, rfl, rfl, HO, hbel, HX⟩ := hrel
    by_cases hlt : k < fr.length
    · obtain ⟨b, off, ha, hb, hc⟩ := (SRow.below HFR.out hbel).at hlt
      subst ha
      have HG : Hid (fr[k]? = some fr[k]) := List.getElem?_eq_getElem hlt
      have c1 := hc k _ HG.out
      have hbr : b < wr.heap.size := by have := hbel.size; omega
      clear hc
      generalize fr[k] = x at *
      have hlen : ((fr.take k).foldl addS []).length ≤ k := by
        have := fold_length (fr.take k) []
        simp at this
        omega
      have HF : Hid _ := fold_snoc [] HG.out
      generalize hO : (fr.take k).foldl addS [] = O at *
      have hgb := (HO.out.lt g rfl).1
      have hgl := (HO.out.lt g rfl).2
      have HR : Hid (SRow wr wr.heap.size (some ⟨g, 0, none⟩) O) := own_row' HO.out
      go_wp2_with fail
      refine (has_any _ c O x wr _ HR.out (by omega)).mono ?_
      rintro e w1 ⟨rfl, rfl⟩
      cases hin : O.any (fun y => decide (y = x)) with
      | true =>
        have HE : Hid ((fr.take (k + 1)).foldl addS [] = O) := by show _ = _; rw [HF.out]; unfold addS; rw [if_pos hin]
        go_wp2
        refine ⟨⟨k + 1, g, c, by omega, by go_num, by rw [HE.out], ?_, hbel, HX⟩, by simp [intOf]; omega⟩
        rw [HE.out]; exact HO
      | false =>
        have HE : Hid ((fr.take (k + 1)).foldl addS [] = O ++ [x]) := by show _ = _; rw [HF.out]; unfold addS; rw [if_neg (by rw [hin]; decide)]
        go_wp2_with (first
          | (at_builtin; refine wpList_append_own _ rfl _ _ 38 rfl (w.heap.size + 1) 9 i0 (.string ⟨#[]⟩) 1 16 Try.underlying38 hi hz0 hz1 hz2 rfl (by decide) _ O.length (O.map Value.string) rfl ?d0 ⟨w1.heap.size, 0, none⟩ 1 1 [.string x] rfl rfl ?d1 ?d2 ?d3 ?d4 ?d5 ?_)
          | go_in)
        case d0 => exact HO.out.alloc _
        case d1 => exact cell_one_new _ _ _
        case d2 => intro u hu; simp at hu; subst hu; rfl
        case d3 => unfold maxLen; omega
        case d4 => omega
        case d5 => simp; omega
        intro v' w2 hown' hgrow _
        obtain ⟨g', c', hv', _, _⟩ := hown'.form (by omega)
        subst hv'
        have hbG : Below (w.heap.size + 1) w1 w2 := ((Below.refl _ _).alloc (by omega) _).grown hgrow (by simp; omega) (by intro j hj; simp [Value.ownBlock] at hj; omega)
        have HB : Hid (Below w.heap.size w w2) := hbel.trans (hbG.mono (by omega))
        have HX2 : Hid _ := SBox.keep HX.out hbG (by omega)
        have HN2 : Hid (w2.ownsRow (w.heap.size + 1) 9 1 (.slice (some ⟨g', 0, none⟩) (O.length + 1) c') (O.length + 1) ((O ++ [x]).map Value.string)) := (by simpa using hown' : World.ownsRow w2 (w.heap.size + 1) 9 1 (.slice (some ⟨g', 0, none⟩) (O.length + 1) c') (O.length + 1) ((O ++ [x]).map Value.string))
        clear hown' hgrow hbG
        go_wp2
        refine ⟨⟨k + 1, g', c', by omega, by go_num, by rw [HE.out]; simp, ?_, HB.out, HX2⟩, by simp [intOf]; omega⟩
        rw [HE.out, List.length_append]
        exact HN2
    · rw [List.take_of_length_le (by omega)] at HO ⊢
      have HBel : Hid (Bel ks fr 0 (fr.foldl addS [])) := Bel.start ks fr
      generalize fr.foldl addS [] = O at *
      go_wp2
      go_loopw [5, 7] (fun v i wr => ∃ (k g c : Nat) (O : List ByteArray), k ≤ O.length ∧ i = .int .i64 k ∧ v = .slice (some ⟨g, 0, none⟩) O.length c ∧ Hid (wr.ownsRow (w.heap.size + 1) 9 1 (.slice (some ⟨g, 0, none⟩) O.length c) O.length (O.map Value.string)) ∧ Below w.heap.size w wr ∧ Hid (SBox wr w.heap.size wd now given births (.slice a ks.length ac) P L) ∧ Hid (Bel ks fr k O)) (fun _ i _ => (pool ks fr).length + 1 - (intOf i).toNat)
      case atStart => exact ⟨0, g, c, O, Nat.zero_le _, rfl, rfl, HO, hbel, HX, HBel⟩
      case round =>
        clear HO HX HBel hbel
        obtain ⟨k, g, c, O, hk, rfl, rfl, HO, hbel, HX, HBel⟩ := hrel
        obtain ⟨x0, x1, x2, x3, x4, x5, x6, x7⟩ := HX.out
        have hOp : O.length ≤ (pool ks fr).length := nodup_le HBel.out.nd HBel.out.pool
        by_cases hlt : k < O.length
        · have HG : Hid (O[k]? = some O[k]) := List.getElem?_eq_getElem hlt
          have c1 := HO.out.cellAt k (by simpa using hlt)
          rw [List.getElem?_map, HG.out] at c1
          simp only [Option.map_some] at c1
          have hgb := (HO.out.lt g rfl).1
          have hgl := (HO.out.lt g rfl).2
          have hk0 : (0 : Int) ≤ (k : Int) := by omega
          have hk1 : (k : Int) < (O.length : Int) := by omega
          generalize O[k] = x at *
          have hF : ∀ n : Cls wr, Calls Try.prog 43 #[.agg #[.int .i64 wd, .int .i64 now, .int .i64 given, .int .i64 births, .slice a ks.length ac, P, L], .string x] n.w fun e w' => e = .returned (.int .i64 (findI ks x)) ∧ Below n.w.heap.size n.w w' := fun n => find_any wd now given births a ac _ _ ks x n.w w.heap.size (KRow.below HKR.out (hbel.trans (n.h.mono hbel.size))) (by have := n.h.size; have := hbel.size; omega) (by omega)
          have HF : Hid _ := hF
          have q0 := Cls.cell x0 x7
          have q1 := Cls.cell x1 x7
          have q2 := Cls.cell x2 x7
          have q3 := Cls.cell x3 x7
          have q4 := Cls.cell x4 x7
          have q5 := Cls.cell x5 x7
          have q6 := Cls.cell x6 x7
          have q7 := Cls.cell c1 hgl
          have hne := Cls.ne wr
          have hlew := hbel.size
          clear hF
          go_wp2
          refine region_cls_lit (by kernel_rfl) (by kernel_rfl) ?_
          repeat (go_big_quiet_step (exact Cls.calls (HF.out _)))
          refine wpQuiet_nil ?_
          intro n
          have HOn : Hid (n.w.ownsRow (w.heap.size + 1) 9 1 (.slice (some ⟨g, 0, none⟩) O.length c) O.length (O.map Value.string)) := World.ownsRow.kept HO.out (grown_below none n.h) (.inr (by simp [Value.ownBlock]))
          have hbn : Below w.heap.size w n.w := hbel.trans (n.h.mono hlew)
          have HXn : Hid _ := SBox.keep HX.out n.h x7
          have hnz := n.size
          clear q0 q1 q2 q3 q4 q5 q6 q7 x0 x1 x2 x3 x4 x5 x6 c1 HF HO HX hbel
          rcases findI_cases ks x with ⟨hfi, hno⟩ | ⟨i2, u, hfi, hu, hus⟩
          · rw [hfi]
            have HB2 : Hid (Bel ks fr (k + 1) O) := Bel.skip HBel.out HG.out hno
            go_wp2
            exact ⟨⟨k + 1, g, c, O, by omega, by go_num, rfl, HOn, hbn, HXn, HB2⟩, by simp [intOf]; omega⟩
          · rw [hfi]
            have hneg : decide ((i2 : Int) < 0) = false := by simp
            have hi2 := (List.getElem?_eq_some_iff.1 hu).1
            obtain ⟨b, off, ha, hb, hc⟩ := (KRow.below HKR.out hbn).at hi2
            subst ha
            obtain ⟨_, _, _, ra, rc, c3, hr⟩ := hc i2 _ hu
            have HRr : Hid (SRow w w.heap.size ra u.refs) := by
              obtain ⟨b', off', ha', _, hc'⟩ := KRow.at HKR.out hi2
              cases ha'
              obtain ⟨_, _, _, ra', rc', c3', hr'⟩ := hc' i2 _ hu
              have := (hbn.cell (p := ⟨b, off + i2 * 4 + 3, none⟩) hb).trans c3'
              rw [c3] at this
              simp at this
              rw [this.1]
              exact hr'
            have hum := List.mem_of_getElem? hu
            have hu30 := HU.out.2 u hum
            have HB2 : Hid (Bel ks fr (k + 1) (u.refs.foldl addS O)) := Bel.go HBel.out HG.out hum hus (fun v hv hvs => HU.out.1 v hv u hum (by rw [hvs, hus]))
            have hOb : ∀ q, ((u.refs.take q).foldl addS O).length ≤ O.length + 30 := fun q => by
              have := fold_length (u.refs.take q) O
              simp at this
              omega
            have hfin : (u.refs.foldl addS O).length ≤ (pool ks fr).length := nodup_le HB2.out.nd HB2.out.pool
            have hOl : k + 1 ≤ (u.refs.foldl addS O).length := by
              have hx2 := fold_get (xs := u.refs) HG.out
              have := (List.getElem?_eq_some_iff.1 hx2).1
              omega
            obtain ⟨y0, y1, y2, y3, y4, y5, y6, y7⟩ := HXn.out
            have hi20 : (0 : Int) ≤ (i2 : Int) := by omega
            have hi21 : (i2 : Int) < (ks.length : Int) := by omega
            have hbw : b < n.w.heap.size := by omega
            clear hc hr
            go_wp2
            go_loopw [5, 10] (fun v j wr => ∃ (q g c : Nat), q ≤ u.refs.length ∧ j = .int .i64 q ∧ v = .slice (some ⟨g, 0, none⟩) ((u.refs.take q).foldl addS O).length c ∧ Hid (wr.ownsRow (w.heap.size + 1) 9 1 (.slice (some ⟨g, 0, none⟩) ((u.refs.take q).foldl addS O).length c) ((u.refs.take q).foldl addS O).length (((u.refs.take q).foldl addS O).map Value.string)) ∧ Below w.heap.size w wr ∧ Hid (SBox wr w.heap.size wd now given births (.slice (some ⟨b, off, none⟩) ks.length ac) P L)) (fun _ j _ => u.refs.length - (intOf j).toNat)
            case atStart => exact ⟨0, g, c, Nat.zero_le _, rfl, rfl, HOn, hbn, HXn⟩
            case round =>
              clear HOn hbn HXn y0 y1 y2 y3 y4 y5 y6 y7 c3 hgl hgb
              obtain ⟨q, g, c, hq, rfl, rfl, HO, hbel, HX⟩ := hrel
              by_cases hql : q < u.refs.length
              · obtain ⟨rb, roff, hra, hrb, hrc⟩ := (SRow.below HRr.out hbel).at hql
                subst hra
                have HGq : Hid (u.refs[q]? = some u.refs[q]) := List.getElem?_eq_getElem hql
                have c1 := hrc q _ HGq.out
                have hrbw : rb < wr.heap.size := by have := hbel.size; omega
                clear hrc
                generalize u.refs[q] = z at *
                have hlen := hOb q
                have HFq : Hid _ := fold_snoc O HGq.out
                generalize hO2 : (u.refs.take q).foldl addS O = O2 at *
                have hgb := (HO.out.lt g rfl).1
                have hgl := (HO.out.lt g rfl).2
                have HR : Hid (SRow wr wr.heap.size (some ⟨g, 0, none⟩) O2) := own_row' HO.out
                go_wp2_with fail
                refine (has_any _ c O2 z wr _ HR.out (by omega)).mono ?_
                rintro e w1 ⟨rfl, rfl⟩
                cases hin : O2.any (fun y => decide (y = z)) with
                | true =>
                  have HE : Hid ((u.refs.take (q + 1)).foldl addS O = O2) := by show _ = _; rw [HFq.out]; unfold addS; rw [if_pos hin]
                  go_wp2
                  refine ⟨⟨q + 1, g, c, by omega, by go_num, by rw [HE.out], ?_, hbel, HX⟩, by simp [intOf]; omega⟩
                  rw [HE.out]; exact HO
                | false =>
                  have HE : Hid ((u.refs.take (q + 1)).foldl addS O = O2 ++ [z]) := by show _ = _; rw [HFq.out]; unfold addS; rw [if_neg (by rw [hin]; decide)]
                  go_wp2_with (first
                    | (at_builtin; refine wpList_append_own _ rfl _ _ 38 rfl (w.heap.size + 1) 9 i0 (.string ⟨#[]⟩) 1 16 Try.underlying38 hi hz0 hz1 hz2 rfl (by decide) _ O2.length (O2.map Value.string) rfl ?d0 ⟨w1.heap.size, 0, none⟩ 1 1 [.string z] rfl rfl ?d1 ?d2 ?d3 ?d4 ?d5 ?_)
                    | go_in)
                  case d0 => exact HO.out.alloc _
                  case d1 => exact cell_one_new _ _ _
                  case d2 => intro u hu; simp at hu; subst hu; rfl
                  case d3 => unfold maxLen; omega
                  case d4 => omega
                  case d5 => simp; omega
                  intro v' w2 hown' hgrow _
                  obtain ⟨g', c', hv', _, _⟩ := hown'.form (by omega)
                  subst hv'
                  have hbG : Below (w.heap.size + 1) w1 w2 := ((Below.refl _ _).alloc (by omega) _).grown hgrow (by simp; omega) (by intro j hj; simp [Value.ownBlock] at hj; omega)
                  have HB : Hid (Below w.heap.size w w2) := hbel.trans (hbG.mono (by omega))
                  have HX2 : Hid _ := SBox.keep HX.out hbG (by omega)
                  have HN2 : Hid (w2.ownsRow (w.heap.size + 1) 9 1 (.slice (some ⟨g', 0, none⟩) (O2.length + 1) c') (O2.length + 1) ((O2 ++ [z]).map Value.string)) := (by simpa using hown' : World.ownsRow w2 (w.heap.size + 1) 9 1 (.slice (some ⟨g', 0, none⟩) (O2.length + 1) c') (O2.length + 1) ((O2 ++ [z]).map Value.string))
                  clear hown' hgrow hbG
                  go_wp2
                  refine ⟨⟨q + 1, g', c', by omega, by go_num, by rw [HE.out]; simp, ?_, HB.out, HX2⟩, by simp [intOf]; omega⟩
                  rw [HE.out, List.length_append]
                  exact HN2
              · rw [List.take_of_length_le (by omega)] at HO ⊢
                generalize u.refs.foldl addS O = O3 at *
                go_wp2
                exact ⟨⟨k + 1, g, c, O3, by omega, by go_num, rfl, HO, hbel, HX, HB2⟩, by simp [intOf]; omega⟩
        · go_wp2
          go_ret
          obtain rfl : k = O.length := by omega
          exact ⟨_, _, _, rfl, HO.out, HBel.out, hbel⟩

end Go.Proofs.Ytbelneejghdmoaa
