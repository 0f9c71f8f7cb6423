import Derived.Test.YthkmpihfhkmaoaaGreatU12
import Derived.Test.YthkmpihfhkmaoaaGreatU10
import Derived.Test.YthkmpihfhkmaoaaGreatU08
import Derived.Test.YthkmpihfhkmaoaaGreatU05
import Derived.Test.YthkmpihfhkmaoaaGreatU06
import Derived.Test.YthkmpihfhkmaoaaGreatU07
import Derived.Test.YthkmpihfhkmaoaaGreatU11
/-
  (*impl.clearing).markFirst.
-/
namespace Go.Proofs.YthkmpihfhkmaoaaGreat
open Go.ChangeShapes Go.WideShapes Go.ChangeAt Go.RowKit

/-- Those of a list that are not marked. -/
def fresh (ms rs : List ByteArray) : List ByteArray := rs.filter (fun r => !(ms.any (fun x => decide (x = r))))

/-- What marking the first of a queue leaves. -/
def MarkTo (ks : List Kd) (s : ByteArray) (qs ms qs' ms' : List ByteArray) : Prop :=
  ((¬ There ks s ∨ s ∈ ms) ∧ qs' = qs ∧ ms' = ms) ∨ ∃ k ∈ ks, k.sum = s ∧ s ∉ ms ∧ ms' = ms ++ [s] ∧ qs' = qs ++ fresh (ms ++ [s]) k.refs

theorem fresh_snoc {ms rs : List ByteArray} {k : Nat} {x : ByteArray} (hx : rs[k]? = some x) : (x ∈ ms → fresh ms (rs.take (k + 1)) = fresh ms (rs.take k)) ∧ (x ∉ ms → fresh ms (rs.take (k + 1)) = fresh ms (rs.take k) ++ [x]) := by
  obtain ⟨h, rfl⟩ := List.getElem?_eq_some_iff.1 hx
  unfold fresh
  rw [List.take_succ_eq_append_getElem h, List.filter_append]
  refine ⟨fun hin => ?_, fun hin => ?_⟩
  · have : (ms.any (fun x => decide (x = rs[k]))) = true := by simpa using hin
    simp [this]
  · have : (ms.any (fun x => decide (x = rs[k]))) = false := by simp; exact fun x hx e => hin (e ▸ hx)
    simp [this]

set_option maxRecDepth 20000 in
set_option maxHeartbeats 16000000 in
theorem markFirst_any (base c d m : Nat) (O P L : Value) (wd now given births : Int) (ks : List Kd) (ps : List Pd) (ls : List Ld) (ph top at_ ro : Int) (Q M : Value) (mm : Nat) (s : ByteArray) (qs ms : List ByteArray) (w : World) (h : CM w base c d m O P L wd now given births ks ps ls ph top at_ ro Q M mm (s :: qs) ms ms) (hks : ∀ k ∈ ks, (k.sum.size : Int) = wd ∧ k.refs.length ≤ 30 ∧ ∀ r ∈ k.refs, (r.size : Int) = wd) (hms : ∀ x ∈ ms, (x.size : Int) = wd) (hs : (s.size : Int) = wd) (h8 : wd ≤ 8) (hql : qs.length ≤ 1048576) (hml : ms.length ≤ 1048576) :
    Calls Tryz.prog 101 #[.pointer (some ⟨c, 0, none⟩)] w fun e w' => e = .returned (.tuple #[]) ∧ ∃ Q' M' qs' ms', CM w' base c d m O P L wd now given births ks ps ls ph top at_ ro Q' M' mm qs' ms' ms' ∧ MarkTo ks s qs ms qs' ms' ∧ Below base w w' := by
  obtain ⟨g, off, cap, o1, rfl, hif, ht, hn, hcap, hc0⟩ : ∃ g off cap o1, Q = .slice (some ⟨g, off, none⟩) (qs.length + 1) cap ∧ ((if cap = 1 then some ⟨g, off, none⟩ else some ⟨g, off + 1, none⟩ : Option Addr) = some ⟨g, o1, none⟩) ∧ ORow w base (.slice (some ⟨g, o1, none⟩) qs.length (cap - 1)) qs ∧ qs.length + 1 ≤ cap ∧ cap ≤ maxLen ∧ w.cell? ⟨g, off, none⟩ = some (.string s) := by
    have hq := h.q
    rcases h.q with ⟨_, e⟩ | ⟨g, off, cap, rfl, hbg, hgl, hlc, hc, _⟩
    · cases e
    · obtain ⟨h1, _, h3, h4⟩ := hq.tail
      by_cases h1c : cap = 1
      · subst h1c
        simp only [List.length_cons] at hlc
        have : qs = [] := List.eq_nil_of_length_eq_zero (by omega)
        subst this
        exact ⟨g, off, 1, off, rfl, rfl, .inr ⟨g, off, 0, rfl, hbg, hgl, Nat.le_refl _, by omega, (fun j hj => by omega), (fun i s hs => by simp at hs)⟩, h3, hc, h4⟩
      · exact ⟨g, off, cap, off + 1, rfl, if_neg h1c, h1, h3, hc, h4⟩
  obtain ⟨W, hW⟩ : ∃ W, W = w.setCell ⟨c, 2, none⟩ (.slice (some ⟨g, o1, none⟩) qs.length (cap - 1)) := ⟨_, rfl⟩
  have hC1 : CM W base c d m O P L wd now given births ks ps ls ph top at_ ro (.slice (some ⟨g, o1, none⟩) qs.length (cap - 1)) M mm qs ms ms := by rw [hW]; exact h.put 2 _ rfl ht h.mr h.ap
  have bW : Below base w W := by rw [hW]; exact (Below.refl _ _).setCell (by simpa using h.bc) _
  obtain ⟨q2, f2⟩ := h.box 2 _ rfl
  obtain ⟨q0, _⟩ := hC1.box 0 _ rfl
  obtain ⟨d0, _⟩ := hC1.dr.box 0 _ rfl
  obtain ⟨d1, _⟩ := hC1.dr.box 1 _ rfl
  have hbc := h.bc
  have HC : Hid (CM W base c d m O P L wd now given births ks ps ls ph top at_ ro (.slice (some ⟨g, o1, none⟩) qs.length (cap - 1)) M mm qs ms ms) := hC1
  have HW : Hid _ := hW
  have hcl := hC1.box.lt
  have hdl := hC1.dr.box.lt
  have HMb : Hid (∀ g, sBlk M = some g → g < W.heap.size) := fun g hg => (hC1.mr.blk hg).2
  have hmml : mm < W.heap.size := by
    obtain ⟨n, cc, f, hM, _⟩ := hC1.mks
    exact hM.lt
  have HKS : Hid _ := hks
  have HMS : Hid _ := hms
  clear hW h hC1 ht hks hms
  go_enter Tryz.func101, Tryz.ntmps101
  go_upto_region 2 with fail
  rw [← HW.out]
  clear HW q2 f2 hc0
  by_cases hth : There ks s
  · obtain ⟨n1, f, hn1, hM, hH⟩ := HC.out.hu
    rcases hH s hs with ⟨_, hno⟩ | ⟨u, ra, rc, hu, hus, hfu, hrow⟩
    · exact absurd hth hno
    have hfind := find_any' wd m n1 f s W hM hs u.sum u.born u.text (.slice ra u.refs.length rc) true ⟨_, _, _, rfl⟩ (by rw [hfu]; rfl) (by rw [hfu]; rfl)
    have HR : Hid (SRow W base ra u.refs) := hrow
    have HU' : Hid (u ∈ ks ∧ u.sum = s) := ⟨hu, hus⟩
    clear hM hH hfu hrow hu hus
    go_wp2_with fail
    refine Calls.mono hfind ?_
    rintro e w1 ⟨rfl, hb1⟩
    obtain ⟨W2, hW2⟩ : ∃ W2, W2 = w1.alloc (.cells #[.string u.sum, .int .i64 u.born, .string u.text, .slice ra u.refs.length rc] 59) := ⟨_, rfl⟩
    have b2 : Below w1.heap.size w1 W2 := by rw [hW2]; exact (Below.refl _ _).alloc (Nat.le_refl _) _
    have z2 : CellsAt W2 w1.heap.size [.string u.sum, .int .i64 u.born, .string u.text, .slice ra u.refs.length rc] := by rw [hW2]; exact CellsAt.new w1 _ _
    have bw2 : Below W.heap.size W W2 := hb1.trans (b2.mono hb1.size)
    have HC2 : Hid (CM W2 base c d m O P L wd now given births ks ps ls ph top at_ ro (.slice (some ⟨g, o1, none⟩) qs.length (cap - 1)) M mm qs ms ms) := HC.out.below bw2
    have HR2 : Hid (SRow W2 base ra u.refs) := SRow.below HR.out (bw2.mono HC.out.lo)
    have bB2 : Below base w W2 := bW.trans (bw2.mono HC.out.lo)
    have HW2 : Hid _ := hW2
    have HZ2 : Hid (CellsAt W2 w1.heap.size [.string u.sum, .int .i64 u.born, .string u.text, .slice ra u.refs.length rc]) := z2
    have hkl : W.heap.size ≤ w1.heap.size := hb1.size
    clear hW2 b2 z2 bw2 hb1 HC HR bW hfind q0 d0 d1 hdl
    go_upto_region 3 with fail
    rw [← HW2.out]
    clear HW2
    have HMK : Hid (∃ n cc f, KMapC W2 98 mm n cc f ∧ MK ms f cc ∧ n ≤ ms.length) := HC2.out.mks
    obtain ⟨nk, cc, fk, hMk, hFk, hnk⟩ := HMK.out
    go_wp2_with fail
    refine Calls.mono (isMarked_any c d ph top at_ ro (.slice (some ⟨g, o1, none⟩) qs.length (cap - 1)) M (.slice none 0 0) mm nk cc fk wd ms s W2 HC2.out.box hMk hFk HMS.out hs h8) ?_
    rintro e w3 ⟨b, rfl, hb, hb3⟩
    have HC3 : Hid (CM w3 base c d m O P L wd now given births ks ps ls ph top at_ ro (.slice (some ⟨g, o1, none⟩) qs.length (cap - 1)) M mm qs ms ms) := HC2.out.below hb3
    have bB3 : Below base w w3 := bB2.trans (hb3.mono HC2.out.lo)
    have HR3 : Hid (SRow w3 base ra u.refs) := SRow.below HR2.out (hb3.mono HC2.out.lo)
    have HZ3 : Hid (CellsAt w3 w1.heap.size [.string u.sum, .int .i64 u.born, .string u.text, .slice ra u.refs.length rc]) := CellsAt.below HZ2.out hb3
    have Hb : Hid (b = true ↔ s ∈ ms) := hb
    clear hMk hFk hnk HMK hb hb3 HC2 HR2 HZ2 bB2
    cases b with
    | true =>
      have Hin : Hid (s ∈ ms) := Hb.out.1 rfl
      go_wp2
      refine bodyPost_ret (results_none rfl _ _ _) rfl ?_
      exact ⟨rfl, _, _, qs, ms, HC3.out, .inl ⟨.inr Hin.out, rfl, rfl⟩, bB3⟩
    | false =>
      have Hnm : Hid (s ∉ ms) := fun e => by have := Hb.out.2 e; cases this
      clear Hb
      obtain ⟨va, vc, hMe, _⟩ := HC3.out.mr.row
      subst hMe
      have HP := HC3.out.pushM s (by omega)
      obtain ⟨a', vc', w5, hr, c3, f3, hC5, hT5, hB5⟩ := HP
      obtain ⟨X, hX⟩ : ∃ X, X = w5.setCell ⟨c, 3, none⟩ (.slice a' (ms.length + 1) vc') := ⟨_, rfl⟩
      rw [← hX] at hC5 hT5 hB5
      obtain ⟨q3, _⟩ := HC3.out.box 3 _ rfl
      have hkz : w1.heap.size < w3.heap.size := CellsAt.lt HZ3.out
      have hkc : ¬ w1.heap.size = c := by omega
      have hbX : Below base w X := bB3.trans hB5
      have HT5 : Hid (SRow X base ra u.refs) := SRow.below HR3.out hB5
      have HCX : Hid (CM X base c d m O P L wd now given births ks ps ls ph top at_ ro (.slice (some ⟨g, o1, none⟩) qs.length (cap - 1)) (.slice a' (ms.length + 1) vc') mm qs (ms ++ [s]) ms) := hC5
      have HX : Hid _ := hX
      have HZX : Hid (CellsAt X w1.heap.size [.string u.sum, .int .i64 u.born, .string u.text, .slice ra u.refs.length rc]) := CellsAt.same HZ3.out (hT5.block _ hkz (fun e => by
        rcases List.mem_cons.1 e with e | e
        · exact hkc e
        · have := HMb.out _ (by simpa using e); omega))
      have HRX : Hid (∀ X', Below base X X' → SRow X' base ra u.refs) := fun X' hX' => SRow.below HT5.out hX'
      clear hX hC5 hT5 hB5 HC3 HR3 HZ3 HT5
      go_wp2_with (first
        | (at_builtin; refine wpList_append_run rfl _ _ 27 27 rfl rfl rfl hr ?_)
        | go_in)
      clear hr q3
      go_upto_region 5 with fail
      rw [← HX.out]
      clear HX c3 f3
      have HS0 : Hid (∀ Y, Below X.heap.size X Y → Y.cell? ⟨c, 7, none⟩ = some (.map (some mm))) := fun Y hY => ((HCX.out.box.below hY) 7 _ rfl).1
      have D0 : Below X.heap.size X X.drew := (Below.refl _ _).drew
      obtain ⟨nk, cc, fk, hMk, hFk, hnk⟩ := HCX.out.mks
      obtain ⟨nn, hnn, hn0, hnm, _⟩ := hFk.get (keyL s)
      have hwr : IntKind.i64.wrap (nn + 1) = nn + 1 := cnt_wrap (by omega) (by omega)
      have HK : Hid (KMapC X 98 mm nk cc fk ∧ MK ms fk cc) := ⟨hMk, hFk⟩
      have hcX := HCX.out.box.lt
      have hmc := HCX.out.ap.cm
      have hmX := hMk.lt
      clear hMk hFk
      go_cut [] (fun wx => Hid (CM wx base c d m O P L wd now given births ks ps ls ph top at_ ro (.slice (some ⟨g, o1, none⟩) qs.length (cap - 1)) (.slice a' (ms.length + 1) vc') mm qs (ms ++ [s]) (ms ++ [s]) ∧ CellsAt wx w1.heap.size [.string u.sum, .int .i64 u.born, .string u.text, .slice ra u.refs.length rc] ∧ Below base X wx))
      case first =>
        go_region_held3 (fun Y => Y.cell? ⟨c, 7, none⟩ = some (.map (some mm)))
          (first | with_reducible exact HS0.out _ D0 | with_reducible exact HS0.out _ k2 | exact hS3 | exact hS4)
          (first
            | (go_at_call 63; refine (key_any s X.drew).mono ?_; rintro e w6 ⟨rfl, hb6⟩; have k2 : Below X.heap.size X w6 := D0.trans (hb6.mono D0.size); obtain ⟨st, w7, w8, he, hl1, hl3, hs4, hm4, hg3, hg4⟩ := (HK.out.1.keep k2 hmX).bump keyed Tryz.underlying82 (by unfold maxLen; omega) zeroInt (key_lit s) (.int .i64 (nn + 1)); rw [hnn] at he hl1 hl3; unfold goInt at he hs4; have hS3 : w7.cell? ⟨c, 7, none⟩ = some (.map (some mm)) := hg3.cell (HS0.out _ k2) (by simpa using hmc); have hS4 : w8.cell? ⟨c, 7, none⟩ = some (.map (some mm)) := hg4.cell (HS0.out _ k2) (by simpa using hmc)))
        all_goals
          have g8 : X.grownBy w8 (some mm) := (grown_below _ k2).trans hg4
          have HF : Hid (CM w8 base c d m O P L wd now given births ks ps ls ph top at_ ro (.slice (some ⟨g, o1, none⟩) qs.length (cap - 1)) (.slice a' (ms.length + 1) vc') mm qs (ms ++ [s]) (ms ++ [s]) ∧ CellsAt w8 w1.heap.size [.string u.sum, .int .i64 u.born, .string u.text, .slice ra u.refs.length rc] ∧ Below base X w8) :=
            ⟨HCX.out.bumped g8 hm4 (HK.out.2.snoc s hn0 hnm) (by simp; omega), CellsAt.far' HZX.out g8 (by omega), (Below.refl _ _).grown g8 HCX.out.lo (fun q e => by cases e; exact HCX.out.bm)⟩
          clear hm4 he hl1 hl3 hs4 hg3 hg4 hS3 hS4 k2 g8
          go_wp2_with fail
          go_meet
          exact HF
      case rest =>
      revert wc
      intro w9 H9
      clear HS0 D0 HK hwr hnn hn0 hnm hcX hmc hmX HCX HZX
      obtain ⟨r3, _⟩ := H9.out.2.1 3 _ rfl
      have HC9 : Hid (CM w9 base c d m O P L wd now given births ks ps ls ph top at_ ro (.slice (some ⟨g, o1, none⟩) qs.length (cap - 1)) (.slice a' (ms.length + 1) vc') mm qs (ms ++ [s]) (ms ++ [s])) := H9.out.1
      have HB9 : Hid (Below base X w9) := H9.out.2.2
      have hrl : u.refs.length ≤ 30 := (HKS.out u HU'.out.1).2.1
      have HRS : Hid (∀ r ∈ u.refs, (r.size : Int) = wd) := (HKS.out u HU'.out.1).2.2
      have HMS2 : Hid (∀ x ∈ ms ++ [s], (x.size : Int) = wd) := fun x hx => by
        rcases List.mem_append.1 hx with hx | hx
        · exact HMS.out x hx
        · simp at hx; rw [hx]; exact hs
      clear H9
      go_wp2
      go_loopw [69] (fun i wr => ∃ (k : Nat) (Qk : Value), k ≤ u.refs.length ∧ i = .int .i64 k ∧ Hid (CM wr base c d m O P L wd now given births ks ps ls ph top at_ ro Qk (.slice a' (ms.length + 1) vc') mm (qs ++ fresh (ms ++ [s]) (u.refs.take k)) (ms ++ [s]) (ms ++ [s]) ∧ Below base X wr)) (fun i _ => u.refs.length - (intOf i).toNat)
      case atStart => exact ⟨0, _, Nat.zero_le _, rfl, by simpa [fresh] using HC9.out, HB9.out⟩
      case round =>
        clear HC9 HB9 r3
        obtain ⟨k, Qk, hk, rfl, HI⟩ := hrel
        by_cases hlt : k < u.refs.length
        · obtain ⟨b, ro_, ha, hb, hc⟩ := (HRX.out _ HI.out.2).at hlt
          subst ha
          have HG : Hid (u.refs[k]? = some u.refs[k]) := List.getElem?_eq_getElem hlt
          have c0 := hc k _ HG.out
          have hxs : (u.refs[k].size : Int) = wd := HRS.out _ (List.getElem_mem hlt)
          have HFS : Hid _ := fresh_snoc (ms := ms ++ [s]) HG.out
          have hfl : (qs ++ fresh (ms ++ [s]) (u.refs.take k)).length ≤ 1048606 := by
            have : (fresh (ms ++ [s]) (u.refs.take k)).length ≤ (u.refs.take k).length := List.length_filter_le _ _
            simp at this ⊢
            omega
          clear hc
          generalize u.refs[k] = x at *
          generalize hO : qs ++ fresh (ms ++ [s]) (u.refs.take k) = qk at *
          have HO : Hid _ := hO
          clear hO
          obtain ⟨nk2, cc2, fk2, hMk, hFk, _⟩ := HI.out.1.mks
          go_wp2_with fail
          refine Calls.mono (isMarked_any c d ph top at_ ro Qk (.slice a' (ms.length + 1) vc') (.slice none 0 0) mm nk2 cc2 fk2 wd (ms ++ [s]) x wr HI.out.1.box hMk hFk HMS2.out hxs h8) ?_
          rintro e w10 ⟨b2, rfl, hb2, hb10⟩
          have HC10 : Hid (CM w10 base c d m O P L wd now given births ks ps ls ph top at_ ro Qk (.slice a' (ms.length + 1) vc') mm qk (ms ++ [s]) (ms ++ [s])) := HI.out.1.below hb10
          have bX10 : Below base X w10 := HI.out.2.trans (hb10.mono HI.out.1.lo)
          have Hb2 : Hid (b2 = true ↔ x ∈ ms ++ [s]) := hb2
          clear hMk hFk hb2 hb10 c0 HI
          cases b2 with
          | true =>
            have HE : Hid (qs ++ fresh (ms ++ [s]) (u.refs.take (k + 1)) = qk) := by show _ = _; rw [HFS.out.1 (Hb2.out.1 rfl)]; exact HO.out
            clear Hb2
            go_wp2
            exact ⟨⟨k + 1, Qk, by omega, by go_num, ⟨by rw [HE.out]; exact HC10.out, bX10⟩⟩, by simp [intOf]; omega⟩
          | false =>
            have HE : Hid (qs ++ fresh (ms ++ [s]) (u.refs.take (k + 1)) = qk ++ [x]) := by
              show _ = _
              rw [HFS.out.2 (fun e => by have := Hb2.out.2 e; cases this), ← List.append_assoc, HO.out]
            clear Hb2
            obtain ⟨ka, kc, hQe, _⟩ := HC10.out.q.row
            subst hQe
            obtain ⟨a2, c2, w11, hr, g2, f2, hC11, _, hB11⟩ := HC10.out.pushQ x (by omega)
            obtain ⟨q2, _⟩ := HC10.out.box 2 _ rfl
            have HEE : Hid _ := And.intro hC11 (bX10.trans hB11)
            clear hC11 hB11
            go_wp2_with (first
              | (at_builtin; refine wpList_append_run rfl _ _ 27 27 rfl rfl rfl hr ?_)
              | go_in)
            clear hr q2
            go_wp2
            exact ⟨⟨k + 1, _, by omega, by go_num, ⟨by rw [HE.out]; exact HEE.out.1, HEE.out.2⟩⟩, by simp [intOf]; omega⟩
        · obtain rfl : k = u.refs.length := by omega
          have hE := HI.out.1
          rw [List.take_of_length_le (Nat.le_refl _)] at hE
          have HE : Hid (CM wr base c d m O P L wd now given births ks ps ls ph top at_ ro Qk (.slice a' (ms.length + 1) vc') mm (qs ++ fresh (ms ++ [s]) u.refs) (ms ++ [s]) (ms ++ [s])) := hE
          clear hE
          go_wp2
          exact ⟨rfl, _, results_none rfl _ _ _, rfl, _, _, _, _, HE.out, .inr ⟨u, HU'.out.1, HU'.out.2, Hnm.out, rfl, rfl⟩, hbX.trans HI.out.2⟩
  · obtain ⟨n1, f, hn1, hM, hH⟩ := HC.out.hu
    have hfn : f (keyL s) = none := by
      rcases hH s hs with ⟨h, _⟩ | ⟨u, _, _, hu, hus, _⟩
      · exact h
      · exact absurd ⟨u, hu, hus⟩ hth
    have hfind := find_any' wd m n1 f s W hM hs ⟨#[]⟩ 0 ⟨#[]⟩ (.slice none 0 0) false ⟨_, _, _, rfl⟩ (by rw [hfn]; rfl) (by rw [hfn]; rfl)
    clear hM hH hfn
    go_wp2_with fail
    refine Calls.mono hfind ?_
    rintro e w1 ⟨rfl, hb1⟩
    have HC2 : Hid (∀ o, CM (w1.alloc o) base c d m O P L wd now given births ks ps ls ph top at_ ro (.slice (some ⟨g, o1, none⟩) qs.length (cap - 1)) M mm qs ms ms ∧ Below base w (w1.alloc o)) := fun o =>
      ⟨HC.out.below (hb1.alloc hb1.size o), bW.trans ((hb1.alloc hb1.size o).mono HC.out.lo)⟩
    clear hb1 HC bW hfind q0 d0 d1 hdl
    go_wp2
    refine bodyPost_ret (results_none rfl _ _ _) rfl ?_
    exact ⟨rfl, _, _, qs, ms, (HC2.out _).1, .inl ⟨.inl hth, rfl, rfl⟩, (HC2.out _).2⟩

end Go.Proofs.YthkmpihfhkmaoaaGreat

/-
  (*impl.draft).youngestBelow.
-/
namespace Go.Proofs.YthkmpihfhkmaoaaGreat
open Go.ChangeShapes Go.WideShapes Go.ChangeAt Go.RowKit

def zeroKd : Kd := ⟨⟨#[]⟩, 0, ⟨#[]⟩, []⟩

/-- The youngest thing below a number, as far as it has been looked for. -/
def YB (ks : List Kd) (at_ : Int) (u : Kd) (ra : Option Addr) (rc : Nat) : Prop :=
  (u = zeroKd ∧ ra = none ∧ rc = 0 ∧ ∀ y ∈ ks, ¬ y.born < at_) ∨ (u ∈ ks ∧ u.born < at_ ∧ ∀ y ∈ ks, y.born < at_ → y.born ≤ u.born)

theorem YB.snoc {ks : List Kd} {at_ : Int} {u x : Kd} {ra : Option Addr} {rc : Nat} (h : YB ks at_ u ra rc) (hx1 : 1 ≤ x.born) : (¬ x.born < at_ → YB (ks ++ [x]) at_ u ra rc) ∧ (x.born < at_ → ¬ u.born < x.born → YB (ks ++ [x]) at_ u ra rc) ∧ (x.born < at_ → u.born < x.born → ∀ rb rd, YB (ks ++ [x]) at_ x rb rd) := by
  have hm : ∀ {y : Kd}, y ∈ ks ++ [x] → y ∈ ks ∨ y = x := fun {y} hy => by
    rcases List.mem_append.1 hy with hy | hy
    · exact .inl hy
    · exact .inr (by simpa using hy)
  refine ⟨fun hx => ?_, fun hx hu => ?_, fun hx hu rb rd => ?_⟩
  · rcases h with ⟨h1, h2, h3, h4⟩ | ⟨h1, h2, h3⟩
    · refine .inl ⟨h1, h2, h3, fun y hy => ?_⟩
      rcases hm hy with hy | rfl
      · exact h4 y hy
      · exact hx
    · refine .inr ⟨List.mem_append_left _ h1, h2, fun y hy hya => ?_⟩
      rcases hm hy with hy | rfl
      · exact h3 y hy hya
      · exact absurd hya hx
  · rcases h with ⟨h1, _⟩ | ⟨h1, h2, h3⟩
    · exfalso
      rw [h1] at hu
      exact hu (by show (0 : Int) < _; omega)
    · refine .inr ⟨List.mem_append_left _ h1, h2, fun y hy hya => ?_⟩
      rcases hm hy with hy | rfl
      · exact h3 y hy hya
      · omega
  · refine .inr ⟨List.mem_append_right _ (by simp), hx, fun y hy hya => ?_⟩
    rcases hm hy with hy | rfl
    · rcases h with ⟨_, _, _, h4⟩ | ⟨_, _, h3⟩
      · exact absurd hya (h4 y hy)
      · have := h3 y hy hya
        omega
    · omega

def kz4 : List Value := [.string ⟨#[]⟩, .int .i64 0, .string ⟨#[]⟩, .slice none 0 0]

set_option maxRecDepth 20000 in
set_option maxHeartbeats 8000000 in
theorem youngest_any (base d m : Nat) (O P L : Value) (wd now given births at_ : Int) (ks : List Kd) (ps : List Pd) (ls : List Ld) (w : World) (hd : Dr w base d m O P L wd now given births ks ps ls) (hnd : (ks.map (·.sum)).Nodup) (hsz : ∀ k ∈ ks, (k.sum.size : Int) = wd) (hk : ks.length ≤ 600) (hb1 : ∀ k ∈ ks, 1 ≤ k.born) :
    Calls Tryz.prog 135 #[.pointer (some ⟨d, 0, none⟩), .int .i64 at_] w fun e w' => ∃ u ra rc, e = .returned (.tuple #[keptV u ra rc, .bool (decide (0 < u.born))]) ∧ YB ks at_ u ra rc ∧ Below w.heap.size w w' := by
  obtain ⟨oa, ocp, rfl⟩ := own_val hd.ord
  have HD : Hid _ := hd
  have hdl := hd.box.lt
  obtain ⟨W, hW⟩ : ∃ W, W = (w.alloc (.cells #[.string ⟨#[]⟩, .int .i64 0, .string ⟨#[]⟩, .slice none 0 0] 59)).alloc (.cells #[.string ⟨#[]⟩, .int .i64 0, .string ⟨#[]⟩, .slice none 0 0] 59) := ⟨_, rfl⟩
  have hB : Below w.heap.size w W := by rw [hW]; exact ((Below.refl _ _).alloc (Nat.le_refl _) _).alloc (by simp) _
  have hzW : W.heap.size = w.heap.size + 2 := by rw [hW]; simp
  have zR : CellsAt W w.heap.size kz4 := by rw [hW]; exact CellsAt.below (v := .string ⟨#[]⟩) (CellsAt.new w kz4 59) ((Below.refl _ _).alloc (Nat.le_refl _) _)
  have zY : CellsAt W (w.heap.size + 1) [.string zeroKd.sum, .int .i64 zeroKd.born, .string zeroKd.text, .slice none zeroKd.refs.length 0] := by
    have h1 := CellsAt.new (w.alloc (.cells #[.string ⟨#[]⟩, .int .i64 0, .string ⟨#[]⟩, .slice none 0 0] 59)) kz4 59
    rw [World.size_alloc] at h1
    rw [hW]
    exact h1
  obtain ⟨e5, _⟩ := CellsAt.below hd.box hB 5 _ rfl
  have HW : Hid _ := hW
  have H0 : Hid _ := And.intro zR zY
  have HzW : Hid _ := hzW
  clear hW hd zR zY hzW
  go_enter Tryz.func135, Tryz.ntmps135
  go_upto_region 2 with fail
  rw [← HW.out]
  clear HW
  go_wp2
  go_loopw [15] (fun i wr => ∃ (k : Nat) (u : Kd) (ra : Option Addr) (rc : Nat), k ≤ ks.length ∧ i = .int .i64 k ∧ Hid (CellsAt wr (w.heap.size + 1) [.string u.sum, .int .i64 u.born, .string u.text, .slice ra u.refs.length rc] ∧ CellsAt wr w.heap.size kz4 ∧ YB (ks.take k) at_ u ra rc ∧ Below w.heap.size w wr ∧ w.heap.size + 2 ≤ wr.heap.size)) (fun i _ => ks.length - (intOf i).toNat)
  case atStart => exact ⟨0, zeroKd, none, 0, Nat.zero_le _, rfl, ⟨H0.out.2, H0.out.1, .inl ⟨rfl, rfl, rfl, (fun y hy => by simp at hy)⟩, hB, by have := HzW.out; omega⟩⟩
  case round =>
    clear H0
    obtain ⟨k, u, ra, rc, hkl, rfl, HI⟩ := hrel
    have hbel := HI.out.2.2.2.1
    have hzr := HI.out.2.2.2.2
    by_cases hlt : k < ks.length
    · have hDr := Dr.below HD.out hbel
      have hord := hDr.ord
      obtain ⟨og, oc, heq, _, hog⟩ := own_form hord (fun e => by injection e with _ h2 _; omega)
      cases heq
      have HG : Hid (ks[k]? = some ks[k]) := List.getElem?_eq_getElem hlt
      have hmem : ks[k] ∈ ks := List.getElem_mem hlt
      have hgs : (ks.map (·.sum))[k]? = some ks[k].sum := by simp [hlt]
      obtain ⟨xa, xc, _, hlk⟩ := hDr.look hnd hsz hmem
      have hx1 := hb1 _ hmem
      have hcell : ∀ j, j < 8 → wr.cell? ⟨og, k * 8 + j, none⟩ = some (.int .u8 (kB ks[k].sum j)) := fun j hj => (hord.cellAt _ (by omega)).trans (cells8_get hgs hj)
      have hc0 := hcell 0 (by omega)
      have hc1 := hcell 1 (by omega)
      have hc2 := hcell 2 (by omega)
      have hc3 := hcell 3 (by omega)
      have hc4 := hcell 4 (by omega)
      have hc5 := hcell 5 (by omega)
      have hc6 := hcell 6 (by omega)
      have hc7 := hcell 7 (by omega)
      rw [Nat.add_zero] at hc0
      have dr : CellsAt wr d _ := hDr.box
      have HT : Hid (ks.take (k + 1) = ks.take k ++ [ks[k]]) := List.take_succ_eq_append_getElem hlt
      have HS : Hid _ := YB.snoc (x := ks[k]) HI.out.2.2.1 hx1
      unfold keyV keyA keptV at hlk
      clear hcell hgs hord hmem hDr
      generalize ks[k] = x at *
      obtain ⟨W1, hW1⟩ : ∃ W1, W1 = wr.alloc (.cells #[.int .u8 (kB x.sum 0), .int .u8 (kB x.sum 1), .int .u8 (kB x.sum 2), .int .u8 (kB x.sum 3), .int .u8 (kB x.sum 4), .int .u8 (kB x.sum 5), .int .u8 (kB x.sum 6), .int .u8 (kB x.sum 7)] 98) := ⟨_, rfl⟩
      have b1 : Below wr.heap.size wr W1 := by rw [hW1]; exact (Below.refl _ _).alloc (Nat.le_refl _) _
      have z1 : W1.heap.size = wr.heap.size + 1 := by rw [hW1]; simp
      have K1 : CellsAt W1 wr.heap.size (kCells x.sum) := by rw [hW1]; exact CellsAt.new wr (kCells x.sum) 98
      have HSS : Hid (∀ X, Below W1.heap.size W1 X → X.cell? ⟨d, 1, none⟩ = some (.map (some m)) ∧ (X.cell? ⟨wr.heap.size, 0, none⟩ = some (.int .u8 (kB x.sum 0)) ∧ X.cell? ⟨wr.heap.size, 1, none⟩ = some (.int .u8 (kB x.sum 1)) ∧ X.cell? ⟨wr.heap.size, 2, none⟩ = some (.int .u8 (kB x.sum 2)) ∧ X.cell? ⟨wr.heap.size, 3, none⟩ = some (.int .u8 (kB x.sum 3)) ∧ X.cell? ⟨wr.heap.size, 4, none⟩ = some (.int .u8 (kB x.sum 4)) ∧ X.cell? ⟨wr.heap.size, 5, none⟩ = some (.int .u8 (kB x.sum 5)) ∧ X.cell? ⟨wr.heap.size, 6, none⟩ = some (.int .u8 (kB x.sum 6)) ∧ X.cell? ⟨wr.heap.size, 7, none⟩ = some (.int .u8 (kB x.sum 7))) ∧ (Instr.lookup 108 (.map (some m)) (.agg #[.int .u8 (kB x.sum 0), .int .u8 (kB x.sum 1), .int .u8 (kB x.sum 2), .int .u8 (kB x.sum 3), .int .u8 (kB x.sum 4), .int .u8 (kB x.sum 5), .int .u8 (kB x.sum 6), .int .u8 (kB x.sum 7)]) false).run Tryz.prog X = .ok (.agg #[.string x.sum, .int .i64 x.born, .string x.text, .slice xa x.refs.length xc]) X) :=
        fun X hX => ⟨((dr.below (b1.trans (hX.mono b1.size))) 1 _ rfl).1, sk8 (hX.block _ (by omega)) K1, hlk X (b1.trans (hX.mono b1.size))⟩
      have D0 : Below W1.heap.size W1 W1.drew := (Below.refl _ _).drew
      have D1 : ∀ o, Below W1.heap.size W1 (W1.alloc o).drew := fun o => ((Below.refl _ _).alloc (Nat.le_refl _) _).drew
      have HW1 : Hid _ := hW1
      have Hz1 : Hid _ := z1
      have HB1 : Hid _ := b1
      clear hW1 z1 hlk K1 b1 dr
      go_upto_region 5 with fail
      rw [← HW1.out]
      clear HW1 hc0 hc1 hc2 hc3 hc4 hc5 hc6 hc7
      go_region_held3 (fun X => X.cell? ⟨d, 1, none⟩ = some (.map (some m)) ∧ (X.cell? ⟨wr.heap.size, 0, none⟩ = some (.int .u8 (kB x.sum 0)) ∧ X.cell? ⟨wr.heap.size, 1, none⟩ = some (.int .u8 (kB x.sum 1)) ∧ X.cell? ⟨wr.heap.size, 2, none⟩ = some (.int .u8 (kB x.sum 2)) ∧ X.cell? ⟨wr.heap.size, 3, none⟩ = some (.int .u8 (kB x.sum 3)) ∧ X.cell? ⟨wr.heap.size, 4, none⟩ = some (.int .u8 (kB x.sum 4)) ∧ X.cell? ⟨wr.heap.size, 5, none⟩ = some (.int .u8 (kB x.sum 5)) ∧ X.cell? ⟨wr.heap.size, 6, none⟩ = some (.int .u8 (kB x.sum 6)) ∧ X.cell? ⟨wr.heap.size, 7, none⟩ = some (.int .u8 (kB x.sum 7))) ∧ (Instr.lookup 108 (.map (some m)) (.agg #[.int .u8 (kB x.sum 0), .int .u8 (kB x.sum 1), .int .u8 (kB x.sum 2), .int .u8 (kB x.sum 3), .int .u8 (kB x.sum 4), .int .u8 (kB x.sum 5), .int .u8 (kB x.sum 6), .int .u8 (kB x.sum 7)]) false).run Tryz.prog X = .ok (.agg #[.string x.sum, .int .i64 x.born, .string x.text, .slice xa x.refs.length xc]) X)
        (first | with_reducible exact HSS.out _ D0 | with_reducible exact HSS.out _ (D1 _))
        (fail)
      all_goals
        clear HSS D0 D1
        obtain ⟨W2, hW2⟩ : ∃ W2, W2 = (W1.alloc (.cells #[.string x.sum, .int .i64 x.born, .string x.text, .slice xa x.refs.length xc] 59)).drew := ⟨_, rfl⟩
        have b2 : Below W1.heap.size W1 W2 := by rw [hW2]; exact ((Below.refl _ _).alloc (Nat.le_refl _) _).drew
        have K2 : CellsAt W2 W1.heap.size [.string x.sum, .int .i64 x.born, .string x.text, .slice xa x.refs.length xc] := by rw [hW2]; exact CellsAt.new W1 _ _
        have z1 := Hz1.out
        have b12 : Below wr.heap.size wr W2 := HB1.out.trans (b2.mono (by omega))
        have z12' := b12.size
        have Y2 := CellsAt.below HI.out.1 b12
        have R2 := CellsAt.below (v := .string ⟨#[]⟩) HI.out.2.1 b12
        obtain ⟨y0, f0⟩ := Y2 0 _ rfl
        obtain ⟨y1, f1⟩ := Y2 1 _ rfl
        obtain ⟨y2, f2⟩ := Y2 2 _ rfl
        obtain ⟨y3, f3⟩ := Y2 3 _ rfl
        obtain ⟨k0, _⟩ := K2 0 _ rfl
        obtain ⟨k1, _⟩ := K2 1 _ rfl
        obtain ⟨k2, _⟩ := K2 2 _ rfl
        obtain ⟨k3, _⟩ := K2 3 _ rfl
        have hne1 : ¬ w.heap.size + 1 = W1.heap.size := by omega
        have hne2 : ¬ W1.heap.size = w.heap.size + 1 := by omega
        have hBw : Below w.heap.size w W2 := hbel.trans (b12.mono (by omega))
        have hz2 : w.heap.size + 2 ≤ W2.heap.size := by omega
        have HY : Hid _ := And.intro Y2 R2
        rw [← hW2]
        clear hW2 b2 K2 z1 b12 Y2 R2 z12'
        by_cases hx : x.born < at_
        · have d1 : decide (x.born < at_) = true := by simpa using hx
          by_cases hu : u.born < x.born
          · have d2 : decide (u.born < x.born) = true := by simpa using hu
            have HF : Hid (YB (ks.take k ++ [x]) at_ x xa xc) := HS.out.2.2 hx hu xa xc
            clear HS hx hu
            go_wp2
            refine ⟨⟨k + 1, x, xa, xc, by omega, by go_num, ⟨?_, ?_, by rw [HT.out]; exact HF.out, ?_, by simpa using hz2⟩⟩, by simp [intOf]; omega⟩
            · exact ((((HY.out.1.set 0 _).set 1 _).set 2 _).set 3 _)
            · exact CellsAt.same HY.out.2 (by rw [Below.heap_setCell _ _ _ _ (by simp), Below.heap_setCell _ _ _ _ (by simp), Below.heap_setCell _ _ _ _ (by simp), Below.heap_setCell _ _ _ _ (by simp)])
            · exact (((hBw.setCell (by simp) _).setCell (by simp) _).setCell (by simp) _).setCell (by simp) _
          · have d2 : decide (u.born < x.born) = false := by simpa using hu
            have HF : Hid (YB (ks.take k ++ [x]) at_ u ra rc) := HS.out.2.1 hx hu
            clear HS hx hu
            go_wp2
            exact ⟨⟨k + 1, u, ra, rc, by omega, by go_num, ⟨HY.out.1, HY.out.2, by rw [HT.out]; exact HF.out, hBw, hz2⟩⟩, by simp [intOf]; omega⟩
        · have d1 : decide (x.born < at_) = false := by simpa using hx
          have HF : Hid (YB (ks.take k ++ [x]) at_ u ra rc) := HS.out.1 hx
          clear HS hx
          go_wp2
          exact ⟨⟨k + 1, u, ra, rc, by omega, by go_num, ⟨HY.out.1, HY.out.2, by rw [HT.out]; exact HF.out, hBw, hz2⟩⟩, by simp [intOf]; omega⟩
    · obtain rfl : k = ks.length := by omega
      have hYB := HI.out.2.2.1
      rw [List.take_of_length_le (Nat.le_refl _)] at hYB
      have HYB : Hid (YB ks at_ u ra rc) := hYB
      obtain ⟨y0, _⟩ := HI.out.1 0 _ rfl
      obtain ⟨y1, _⟩ := HI.out.1 1 _ rfl
      obtain ⟨y2, _⟩ := HI.out.1 2 _ rfl
      obtain ⟨y3, _⟩ := HI.out.1 3 _ rfl
      have r0 : wr.cell? ⟨w.heap.size, 0, none⟩ = some (.string ⟨#[]⟩) := (HI.out.2.1 0 _ rfl).1
      have r1 : wr.cell? ⟨w.heap.size, 1, none⟩ = some (.int .i64 0) := (HI.out.2.1 1 _ rfl).1
      have r2 : wr.cell? ⟨w.heap.size, 2, none⟩ = some (.string ⟨#[]⟩) := (HI.out.2.1 2 _ rfl).1
      have r3 : wr.cell? ⟨w.heap.size, 3, none⟩ = some (.slice none 0 0) := (HI.out.2.1 3 _ rfl).1
      have g0 := (HI.out.2.1 0 _ rfl).2
      have g1 := (HI.out.2.1 1 _ rfl).2
      have g2 := (HI.out.2.1 2 _ rfl).2
      have g3 := (HI.out.2.1 3 _ rfl).2
      have S0 : wr.drew.cell? ⟨w.heap.size + 1, 0, none⟩ = some (.string u.sum) ∧ wr.drew.cell? ⟨w.heap.size + 1, 1, none⟩ = some (.int .i64 u.born) ∧ wr.drew.cell? ⟨w.heap.size + 1, 2, none⟩ = some (.string u.text) ∧ wr.drew.cell? ⟨w.heap.size + 1, 3, none⟩ = some (.slice ra u.refs.length rc) := ⟨y0, y1, y2, y3⟩
      have hbX : ∀ a0 a1 a2 a3, Below w.heap.size w ((((wr.setCell ⟨w.heap.size, 0, none⟩ a0).setCell ⟨w.heap.size, 1, none⟩ a1).setCell ⟨w.heap.size, 2, none⟩ a2).setCell ⟨w.heap.size, 3, none⟩ a3) := fun a0 a1 a2 a3 => (((hbel.setCell (by simp) _).setCell (by simp) _).setCell (by simp) _).setCell (by simp) _
      clear hYB
      go_wp2
      go_region_held3 (fun X => X.cell? ⟨w.heap.size + 1, 0, none⟩ = some (.string u.sum) ∧ X.cell? ⟨w.heap.size + 1, 1, none⟩ = some (.int .i64 u.born) ∧ X.cell? ⟨w.heap.size + 1, 2, none⟩ = some (.string u.text) ∧ X.cell? ⟨w.heap.size + 1, 3, none⟩ = some (.slice ra u.refs.length rc))
        (first | with_reducible exact S0 | (simp [go_sem]; exact S0) | go_keep)
        (fail)
      all_goals
        go_wp2
        refine bodyPost_ret (v := .tuple #[keptV u ra rc, .bool (decide (0 < u.born))]) (by simp [results, Tryz.results135, go_sem, keptV, r0, r1, r2, r3]) rfl ⟨u, ra, rc, rfl, HYB.out, (hbX _ _ _ _).drew⟩

end Go.Proofs.YthkmpihfhkmaoaaGreat

/-
  spec.l4Held, l6Next.
-/
namespace Go.Proofs.YthkmpihfhkmaoaaGreat
open Go.ChangeShapes Go.WideShapes Go.ChangeAt Go.RowKit

set_option maxHeartbeats 2000000 in
theorem l4Held_any (wd now given births : Int) (T : Value) (p l : Option Addr) (pc lc : Nat) (ps : List Pd) (ls : List Ld) (s : ByteArray) (w : World) (hp : PRow w w.heap.size p ps) (hl : LRow w w.heap.size l ls) (hpl : ps.length ≤ 1000) (hll : ls.length ≤ 1000) :
    Calls Tryz.prog 130 #[.agg #[.int .i64 wd, .int .i64 now, .int .i64 given, .int .i64 births, T, .slice p ps.length pc, .slice l ls.length lc], .string s] w fun e w' => Says ((∃ p ∈ ps, p.sum = s) ∨ ∃ l ∈ ls, l.sum = s) w w' e := by
  have HPR : Hid _ := hp
  have HLR : Hid _ := hl
  have hx := SBox.new w wd now given births T (.slice p ps.length pc) (.slice l ls.length lc) 36
  have hb0 : Below w.heap.size w (w.alloc (.cells #[.int .i64 wd, .int .i64 now, .int .i64 given, .int .i64 births, T, .slice p ps.length pc, .slice l ls.length lc] 36)) := (Below.refl _ _).alloc (Nat.le_refl _) _
  obtain ⟨W, hW⟩ : ∃ W, W = w.alloc (.cells #[.int .i64 wd, .int .i64 now, .int .i64 given, .int .i64 births, T, .slice p ps.length pc, .slice l ls.length lc] 36) := ⟨_, rfl⟩
  rw [← hW] at hx hb0
  have HW : Hid _ := hW
  clear hp hl hW
  obtain ⟨q0, q1, q2, q3, q4, q5, q6, q7⟩ := hx
  clear q0 q1 q2 q3 q4
  go_enter Tryz.func130, Tryz.ntmps130
  go_upto_region 1 with fail
  rw [← HW.out]
  clear HW
  go_wp2
  go_loop [5] (fun i => ∃ k : Nat, k ≤ ps.length ∧ i = .int .i64 k ∧ Hid (∀ j x, j < k → ps[j]? = some x → ¬ x.sum = s)) (fun i => ps.length - (intOf i).toNat)
  case atStart => exact ⟨0, Nat.zero_le _, rfl, (fun j x h => by omega)⟩
  case round =>
    obtain ⟨k, hk, rfl, hall⟩ := hrel
    by_cases hlt : k < ps.length
    · obtain ⟨b, off, ha, hb, hc⟩ := (PRow.below HPR.out hb0).at hlt
      subst ha
      have HG : Hid (ps[k]? = some ps[k]) := List.getElem?_eq_getElem hlt
      obtain ⟨c0, c1⟩ := hc k _ HG.out
      clear hc
      generalize ps[k] = x at *
      by_cases h : x.sum = s
      · have hq : (x.sum.toList == s.toList) = true := by rw [h]; simp
        have Hh : Hid _ := h
        clear h
        go_wp2
        refine bodyPost_ret (results_tmp rfl _ _ _) rfl ?_
        exact Says.yes (.inl ⟨x, List.mem_of_getElem? HG.out, Hh.out⟩) hb0
      · have hq : (x.sum.toList == s.toList) = false := beq_ne h
        have HA : Hid (∀ j y, j < k + 1 → ps[j]? = some y → ¬ y.sum = s) := by
          intro j y hj hy
          rcases Nat.lt_or_ge j k with h' | h'
          · exact hall.out j y h' hy
          · obtain rfl : j = k := by omega
            rw [HG.out] at hy
            cases hy
            exact h
        clear h
        go_wp2
        exact ⟨⟨k + 1, by omega, by go_num, HA⟩, by simp [intOf]; omega⟩
    · have HNP : Hid (¬ ∃ p ∈ ps, p.sum = s) := by
        rintro ⟨y, hy, hys⟩
        obtain ⟨j, hj, rfl⟩ := List.getElem_of_mem hy
        exact hall.out j _ (by omega) (List.getElem?_eq_getElem hj) hys
      clear hall
      go_wp2
      go_loop [6] (fun i => ∃ k : Nat, k ≤ ls.length ∧ i = .int .i64 k ∧ Hid (∀ j x, j < k → ls[j]? = some x → ¬ x.sum = s)) (fun i => ls.length - (intOf i).toNat)
      case atStart => exact ⟨0, Nat.zero_le _, rfl, (fun j x h => by omega)⟩
      case round =>
        obtain ⟨k, hk, rfl, hall⟩ := hrel
        by_cases hlt : k < ls.length
        · obtain ⟨b, off, ha, hb, hc⟩ := (LRow.below HLR.out hb0).at hlt
          subst ha
          have HG : Hid (ls[k]? = some ls[k]) := List.getElem?_eq_getElem hlt
          obtain ⟨c0, c1, c2⟩ := hc k _ HG.out
          clear hc
          generalize ls[k] = x at *
          by_cases h : x.sum = s
          · have hq : (x.sum.toList == s.toList) = true := by rw [h]; simp
            have Hh : Hid _ := h
            clear h
            go_wp2
            refine bodyPost_ret (results_tmp rfl _ _ _) rfl ?_
            exact Says.yes (.inr ⟨x, List.mem_of_getElem? HG.out, Hh.out⟩) hb0
          · have hq : (x.sum.toList == s.toList) = false := beq_ne h
            have HA : Hid (∀ j y, j < k + 1 → ls[j]? = some y → ¬ y.sum = s) := by
              intro j y hj hy
              rcases Nat.lt_or_ge j k with h' | h'
              · exact hall.out j y h' hy
              · obtain rfl : j = k := by omega
                rw [HG.out] at hy
                cases hy
                exact h
            clear h
            go_wp2
            exact ⟨⟨k + 1, by omega, by go_num, HA⟩, by simp [intOf]; omega⟩
        · go_wp2
          refine bodyPost_ret (results_tmp rfl _ _ _) rfl ?_
          refine Says.no (fun e => ?_) hb0
          rcases e with e | ⟨y, hy, hys⟩
          · exact absurd e HNP.out
          · obtain ⟨j, hj, rfl⟩ := List.getElem_of_mem hy
            exact absurd hys (hall.out j _ (by omega) (List.getElem?_eq_getElem hj))

end Go.Proofs.YthkmpihfhkmaoaaGreat

/-
  spec.l4Drop.
-/
namespace Go.Proofs.YthkmpihfhkmaoaaGreat
open Go.ChangeShapes Go.WideShapes Go.ChangeAt Go.RowKit

/-- A row of things that is read, each with its Refs' slice, none of them nil. -/
def ZRow (w : World) (b off : Nat) (zs : List (Kd × Value)) : Prop :=
  ∀ i z, zs[i]? = some z → (w.cell? ⟨b, off + i * 4, none⟩ = some (.string z.1.sum) ∧ w.cell? ⟨b, off + i * 4 + 1, none⟩ = some (.int .i64 z.1.born) ∧ w.cell? ⟨b, off + i * 4 + 2, none⟩ = some (.string z.1.text) ∧ w.cell? ⟨b, off + i * 4 + 3, none⟩ = some z.2) ∧ ∃ ad rc, z.2 = .slice (some ad) z.1.refs.length rc ∧ SRow w w.heap.size (some ad) z.1.refs

theorem ZRow.below {w w' : World} {b off : Nat} {zs : List (Kd × Value)} (h : ZRow w b off zs) (hb : Below w.heap.size w w') (hl : b < w.heap.size) : ZRow w' b off zs := by
  intro i z hz
  obtain ⟨⟨h0, h1, h2, h3⟩, ad, rc, h4, h5⟩ := h i z hz
  exact ⟨⟨(hb.cell (p := ⟨b, off + i * 4, none⟩) hl).trans h0, (hb.cell (p := ⟨b, off + i * 4 + 1, none⟩) hl).trans h1, (hb.cell (p := ⟨b, off + i * 4 + 2, none⟩) hl).trans h2, (hb.cell (p := ⟨b, off + i * 4 + 3, none⟩) hl).trans h3⟩, ad, rc, h4, SRow.mono (SRow.below h5 hb) hb.size⟩

theorem ZRow.krow {w : World} {b off : Nat} {zs : List (Kd × Value)} (h : ZRow w b off zs) (hl : b < w.heap.size) : KRow w w.heap.size (some ⟨b, off, none⟩) (zs.map (·.1)) := by
  refine .inr ⟨b, off, rfl, hl, fun i k hk => ?_⟩
  rw [List.getElem?_map] at hk
  cases hz : zs[i]? with
  | none => rw [hz] at hk; cases hk
  | some z =>
    rw [hz] at hk
    cases hk
    obtain ⟨⟨h0, h1, h2, h3⟩, ad, rc, h4, h5⟩ := h i z hz
    exact ⟨h0, h1, h2, some ad, rc, by rw [h3, h4], h5⟩

/-- A row that the call made, of things whose Refs lie where they lay. -/
theorem ZRow.own {w : World} {base g cap : Nat} {zs : List (Kd × Value)} (ho : w.ownsRow base 59 4 (.slice (some ⟨g, 0, none⟩) zs.length cap) zs.length (rowC kC zs)) (hs : ∀ z ∈ zs, ∃ ad rc, z.2 = .slice (some ad) z.1.refs.length rc ∧ SRow w w.heap.size (some ad) z.1.refs) : ZRow w g 0 zs := by
  intro i z hz
  have hi := (List.getElem?_eq_some_iff.1 hz).1
  have hc : ∀ j, j < 4 → w.cell? ⟨g, i * 4 + j, none⟩ = (kC z)[j]? := fun j hj => (ho.cellAt (i * 4 + j) (by omega)).trans (row_get kC_len4 hz hj)
  refine ⟨⟨?_, ?_, ?_, ?_⟩, hs z (List.mem_of_getElem? hz)⟩
  · rw [Nat.zero_add]; simpa [kC] using hc 0 (by decide)
  · rw [Nat.zero_add]; simpa [kC] using hc 1 (by decide)
  · rw [Nat.zero_add]; simpa [kC] using hc 2 (by decide)
  · rw [Nat.zero_add]; simpa [kC] using hc 3 (by decide)

def dropZ (zs : List (Kd × Value)) (s : ByteArray) : List (Kd × Value) := zs.filter (fun z => !decide (z.1.sum = s))

theorem dropZ_map (zs : List (Kd × Value)) (s : ByteArray) : (dropZ zs s).map (·.1) = dropK (zs.map (·.1)) s := by
  unfold dropZ dropK
  rw [List.filter_map]
  rfl

theorem dropZ_snoc {zs : List (Kd × Value)} {k : Nat} {z : Kd × Value} (s : ByteArray) (hz : zs[k]? = some z) : dropZ (zs.take (k + 1)) s = dropZ (zs.take k) s ++ (if z.1.sum = s then [] else [z]) := by
  obtain ⟨hlt, rfl⟩ := List.getElem?_eq_some_iff.1 hz
  unfold dropZ
  rw [List.take_succ_eq_append_getElem hlt, List.filter_append]
  by_cases h : zs[k].1.sum = s <;> simp [h]

theorem sbox_of {w : World} {b : Nat} {wd now given births : Int} {T P L : Value} (h : CellsAt w b [.int .i64 wd, .int .i64 now, .int .i64 given, .int .i64 births, T, P, L]) : SBox w b wd now given births T P L :=
  ⟨(h 0 _ rfl).1, (h 1 _ rfl).1, (h 2 _ rfl).1, (h 3 _ rfl).1, (h 4 _ rfl).1, (h 5 _ rfl).1, (h 6 _ rfl).1, h.lt⟩

/-- Whether a thing is in use. -/
def InUse (ps : List Pd) (ls : List Ld) (ks : List Kd) (s : ByteArray) : Prop := ((∃ p ∈ ps, p.sum = s) ∨ ∃ l ∈ ls, l.sum = s) ∨ ∃ k ∈ ks, s ∈ k.refs

/-- What l4Drop answers. -/
def Dropped (w w' : World) (e : Ending) (wd now given births : Int) (P L : Value) (zs : List (Kd × Value)) (ps : List Pd) (ls : List Ld) (s : ByteArray) : Prop :=
  Below w.heap.size w w' ∧ ((InUse ps ls (zs.map (·.1)) s ∧ e = .returned (.agg #[.int .i64 6, .int .i64 0, .int .i64 0, .int .i64 0, .int .i64 0, .slice none 0 0, .slice none 0 0, .slice none 0 0, .string ⟨#[]⟩, .int .i64 0, .string ⟨#[]⟩, .string ⟨#[]⟩])) ∨
    (¬ InUse ps ls (zs.map (·.1)) s ∧ ∃ g c, e = .returned (.agg #[.int .i64 0, .int .i64 wd, .int .i64 now, .int .i64 given, .int .i64 births, .slice (some ⟨g, 0, none⟩) (dropZ zs s).length c, P, L, .string ⟨#[]⟩, .int .i64 0, .string ⟨#[]⟩, .string ⟨#[]⟩]) ∧ ZRow w' g 0 (dropZ zs s) ∧ w.heap.size ≤ g ∧ g < w'.heap.size))

set_option maxRecDepth 20000 in
set_option maxHeartbeats 4000000 in
theorem l4Drop_any (wd now given births : Int) (b off ac pc lc : Nat) (p l : Option Addr) (zs : List (Kd × Value)) (ps : List Pd) (ls : List Ld) (s : ByteArray) (w : World) (hz : ZRow w b off zs) (hbl : b < w.heap.size) (hp : PRow w w.heap.size p ps) (hl : LRow w w.heap.size l ls) (hzl : zs.length ≤ 600) (hpl : ps.length ≤ 100) (hll : ls.length ≤ 200) (hr : ∀ z ∈ zs, z.1.refs.length ≤ 1000) (hth : There (zs.map (·.1)) s) :
    Calls Tryz.prog 90 #[.agg #[.int .i64 wd, .int .i64 now, .int .i64 given, .int .i64 births, .slice (some ⟨b, off, none⟩) zs.length ac, .slice p ps.length pc, .slice l ls.length lc], .string s] w fun e w' => Dropped w w' e wd now given births (.slice p ps.length pc) (.slice l ls.length lc) zs ps ls s := by
  obtain ⟨W, hW⟩ : ∃ W, W = (w.alloc (.cells #[.int .i64 wd, .int .i64 now, .int .i64 given, .int .i64 births, .slice (some ⟨b, off, none⟩) zs.length ac, .slice p ps.length pc, .slice l ls.length lc] 36)).alloc (.cells #[.int .i64 0, .int .i64 0, .int .i64 0, .int .i64 0, .int .i64 0, .slice none 0 0, .slice none 0 0, .slice none 0 0, .string ⟨#[]⟩, .int .i64 0, .string ⟨#[]⟩, .string ⟨#[]⟩] 129) := ⟨_, rfl⟩
  have hB : Below w.heap.size w W := by rw [hW]; exact ((Below.refl _ _).alloc (Nat.le_refl _) _).alloc (by simp) _
  have hzW : W.heap.size = w.heap.size + 2 := by rw [hW]; simp
  have xW : SBox W w.heap.size wd now given births (.slice (some ⟨b, off, none⟩) zs.length ac) (.slice p ps.length pc) (.slice l ls.length lc) := by rw [hW]; exact SBox.keep (SBox.new w wd now given births _ _ _ 36) ((Below.refl _ _).alloc (Nat.le_refl _) _) (by simp)
  have zR : CellsAt W (w.heap.size + 1) z12 := by
    have h1 := CellsAt.new (w.alloc (.cells #[.int .i64 wd, .int .i64 now, .int .i64 given, .int .i64 births, .slice (some ⟨b, off, none⟩) zs.length ac, .slice p ps.length pc, .slice l ls.length lc] 36)) z12 129
    rw [World.size_alloc] at h1
    rw [hW]
    exact h1
  have HF := find_any wd now given births (some ⟨b, off, none⟩) ac (.slice p ps.length pc) (.slice l ls.length lc) (zs.map (·.1)) s W w.heap.size (KRow.below (hz.krow hbl) hB) hB.size (by rw [List.length_map]; omega)
  rw [List.length_map] at HF
  have hfi : 0 ≤ findI (zs.map (·.1)) s := by
    rcases findI_cases (zs.map (·.1)) s with ⟨_, hn⟩ | ⟨i, k, e, _⟩
    · exact absurd hth hn
    · omega
  have HFF : Hid _ := HF
  have HZR : Hid _ := zR
  have HCW : Hid (CellsAt W w.heap.size [.int .i64 wd, .int .i64 now, .int .i64 given, .int .i64 births, .slice (some ⟨b, off, none⟩) zs.length ac, .slice p ps.length pc, .slice l ls.length lc]) := by rw [hW]; exact CellsAt.below (CellsAt.new w _ _) ((Below.refl _ _).alloc (Nat.le_refl _) _)
  have hzR12 : w.heap.size + 1 < W.heap.size := by omega
  have HZ : Hid _ := hz
  have HPL : Hid _ := And.intro hp hl
  have HW : Hid _ := hW
  have HXW : Hid _ := xW
  clear hW hz hp hl zR HF hth
  obtain ⟨x0, x1, x2, x3, x4, x5, x6, x7⟩ := xW
  go_enter Tryz.func90, Tryz.ntmps90
  go_upto_region 1 with fail
  rw [← HW.out]
  clear HW
  go_wp2_with fail
  refine Calls.mono HFF.out ?_
  rintro e w1 ⟨rfl, hb1⟩
  have hd1 : ¬ findI (zs.map (·.1)) s < 0 := by omega
  have HX1 : Hid _ := SBox.below HXW.out hb1
  obtain ⟨y0, y1, y2, y3, y4, y5, y6, y7⟩ := HX1.out
  have hB1 : Below w.heap.size w w1 := hB.trans (hb1.mono hB.size)
  clear x0 x1 x2 x3 x4 x5 x6 HFF
  generalize findI (zs.map (·.1)) s = fi at *
  go_wp2_with fail
  refine (l4Held_any wd now given births (.slice (some ⟨b, off, none⟩) zs.length ac) p l pc lc ps ls s w1 (PRow.mono (PRow.below HPL.out.1 hB1) hB1.size) (LRow.mono (LRow.below HPL.out.2 hB1) hB1.size) (by omega) (by omega)).mono ?_
  rintro e w2 ⟨ok, rfl, hok, hb2⟩
  have hB2 : Below w.heap.size w w2 := hB1.trans (hb2.mono hB1.size)
  have HX2 : Hid _ := SBox.below HX1.out hb2
  have z2 : CellsAt w2 (w.heap.size + 1) z12 := CellsAt.below (v := .int .i64 0) (CellsAt.below (v := .int .i64 0) HZR.out hb1) hb2
  have HZ2 : Hid _ := z2
  have HOK : Hid _ := hok
  clear hok y0 y1 y2 y3 y4 y5 y6 z2
  cases ok
  · obtain ⟨v0, v1, v2, v3, v4, v5, v6, v7⟩ := HX2.out
    have hw2 : w.heap.size + 2 ≤ w2.heap.size := by have := hb1.size; have := hb2.size; omega
    have bA : Below w2.heap.size w2 (w2.alloc (.cells #[] 59)) := (Below.refl _ _).alloc (Nat.le_refl _) _
    go_wp2
    go_loopw [5, 6] (fun v i wr => ∃ (k g c : Nat), k ≤ zs.length ∧ i = .int .i64 k ∧ v = .slice (some ⟨g, 0, none⟩) (dropZ (zs.take k) s).length c ∧ Hid (wr.ownsRow (w.heap.size + 2) 59 4 (.slice (some ⟨g, 0, none⟩) (dropZ (zs.take k) s).length c) (dropZ (zs.take k) s).length (rowC kC (dropZ (zs.take k) s)) ∧ (∀ z ∈ zs.take k, ¬ s ∈ z.1.refs) ∧ CellsAt wr w.heap.size [.int .i64 wd, .int .i64 now, .int .i64 given, .int .i64 births, .slice (some ⟨b, off, none⟩) zs.length ac, .slice p ps.length pc, .slice l ls.length lc] ∧ CellsAt wr (w.heap.size + 1) z12 ∧ Below w.heap.size w wr)) (fun _ i _ => zs.length - (intOf i).toNat)
    case atStart =>
      refine ⟨0, w2.heap.size, 0, Nat.zero_le _, rfl, by simp [dropZ], ⟨?_, (fun z hz => by simp at hz), CellsAt.below (CellsAt.below (CellsAt.below HCW.out hb1) hb2) bA, CellsAt.below (v := .int .i64 0) HZ2.out bA, hB2.trans (bA.mono hB2.size)⟩⟩
      have := World.ownsRow_lit (base := w.heap.size + 2) (e := 59) (size := 4) w2 #[] 0 hw2 (by unfold maxLen; omega) rfl
      simpa [dropZ, rowC] using this
    case round =>
      clear HX1 HXW HZ2 HX2 v0 v1 v2 v3 v4 v5 v6 v7 bA
      obtain ⟨k, g, c, hk, rfl, rfl, HI⟩ := hrel
      obtain ⟨v0, v1, v2, v3, v4, v5, v6, v7⟩ := sbox_of HI.out.2.2.1
      have hbel := HI.out.2.2.2.2
      have hzr := hbel.size
      by_cases hlt : k < zs.length
      · have HG : Hid (zs[k]? = some zs[k]) := List.getElem?_eq_getElem hlt
        obtain ⟨⟨c0, c1, c2, c3⟩, ad, rc, h4, h5⟩ := (ZRow.below HZ.out hbel hbl) k _ HG.out
        have hr1 := hr _ (List.getElem_mem hlt)
        have HSn : Hid _ := dropZ_snoc s HG.out
        have hbr : b < wr.heap.size := by omega
        have HSR : Hid _ := h5
        have HTk : Hid (zs.take (k + 1) = zs.take k ++ [zs[k]]) := List.take_succ_eq_append_getElem hlt
        rw [h4] at c3
        have H4 : Hid _ := h4
        clear h5 h4
        generalize zs[k] = z at *
        have hdl : (dropZ (zs.take k) s).length ≤ 600 := by
          have := List.length_filter_le (fun z : Kd × Value => !decide (z.1.sum = s)) (zs.take k)
          unfold dropZ
          rw [List.length_take] at this
          omega
        go_wp2_with fail
        refine (has_any (some ad) rc z.1.refs s wr wr.heap.size HSR.out (by omega)).mono ?_
        rintro e w3 ⟨rfl, rfl⟩
        by_cases hin : s ∈ z.1.refs
        · have hd : z.1.refs.any (fun x => decide (x = s)) = true := by simpa using hin
          rw [hd]
          obtain ⟨⟨y0, q0⟩, ⟨y1, q1⟩, ⟨y2, q2⟩, ⟨y3, q3⟩, ⟨y4, q4⟩, ⟨y5, q5⟩, ⟨y6, q6⟩, ⟨y7, q7⟩, ⟨y8, q8⟩, ⟨y9, q9⟩, ⟨y10, q10⟩, y11, q11⟩ := z12at HI.out.2.2.2.1
          have Hin : Hid _ := hin
          clear hin hd c0 c1 c2 c3 v0 v1 v2 v3 v4 v5 v6
          go_wp2
          refine bodyPost_ret (v := .agg #[.int .i64 6, .int .i64 0, .int .i64 0, .int .i64 0, .int .i64 0, .slice none 0 0, .slice none 0 0, .slice none 0 0, .string ⟨#[]⟩, .int .i64 0, .string ⟨#[]⟩, .string ⟨#[]⟩]) (by simp [results, Tryz.results90, go_sem, y0, y1, y2, y3, y4, y5, y6, y7, y8, y9, y10, y11]) rfl ⟨hbel.trans (Tn.below (tn12 _ (w.heap.size + 1) _ _ _ _ _ _ _ _ _ _ _ _) hbel.size (by simp)), .inl ⟨.inr ⟨z.1, List.mem_map.2 ⟨z, List.mem_of_getElem? HG.out, rfl⟩, Hin.out⟩, rfl⟩⟩
        · have hd : z.1.refs.any (fun x => decide (x = s)) = false := by
            rw [List.any_eq_false]
            intro x hx e
            exact hin (of_decide_eq_true e ▸ hx)
          rw [hd]
          have HNo : Hid (∀ y ∈ zs.take (k + 1), ¬ s ∈ y.1.refs) := by
            rw [HTk.out]
            intro y hy
            rcases List.mem_append.1 hy with hy | hy
            · exact HI.out.2.1 y hy
            · simp at hy
              rw [hy]
              exact hin
          clear hin hd
          by_cases hzs : z.1.sum = s
          · have hq : (z.1.sum.toList != s.toList) = false := by rw [hzs]; simp
            have hq2 : (z.1.sum.toList == s.toList) = true := by rw [hzs]; simp
            have hsn := HSn.out
            rw [if_pos hzs, List.append_nil] at hsn
            have HSe : Hid _ := hsn
            clear hsn hzs
            go_wp2
            exact ⟨⟨k + 1, g, c, by omega, by go_num, by rw [HSe.out], ⟨by rw [HSe.out]; exact HI.out.1, HNo.out, HI.out.2.2⟩⟩, by simp [intOf]; omega⟩
          · have hq2 : (z.1.sum.toList == s.toList) = false := beq_ne hzs
            have hq : (z.1.sum.toList != s.toList) = true := by simp [bne, hq2]
            have hsn := HSn.out
            rw [if_neg hzs] at hsn
            have HSe : Hid _ := hsn
            clear hsn hzs
            obtain ⟨i0, hi, hz0, hz1, hz2⟩ := info_parts Tryz.infoKept
            have hgl := own_lt HI.out.1 (g := g) rfl
            go_wp2_with (first
              | (at_builtin; refine wpList_append_own_at _ rfl _ _ 32 rfl (w.heap.size + 2) 59 i0 _ 4 64 Tryz.underlying32 hi hz0 hz1 hz2 rfl (by decide) _ (dropZ (zs.take k) s).length (rowC kC (dropZ (zs.take k) s)) rfl ?d0 ⟨w3.heap.size, 0, none⟩ 1 1 (kC (z.1, .slice (some ad) z.1.refs.length rc)) rfl rfl ?d2 ?d3 ?d4 ?d5 ?d6 ?_)
              | go_in)
            case d0 => exact own_below HI.out.1 ((Below.refl _ _).alloc (Nat.le_refl _) _)
            case d2 =>
              intro j u hu
              rw [Go.WideShapes.add_plain, Nat.zero_add]
              exact ((CellsAt.new w3 (kC (z.1, .slice (some ad) z.1.refs.length rc)) 59) j u hu).1
            case d3 =>
              intro u hu
              simp [kC] at hu
              rcases hu with rfl | rfl | rfl | rfl <;> rfl
            case d4 => unfold maxLen; omega
            case d5 => omega
            case d6 => simp; omega
            intro v4 w4 ho4 hg4 hn4 ha4
            obtain ⟨g4, c4, rfl, hg4a, hg4b⟩ := own_form ho4 (fun e => by subst e; rcases ho4.2 with ⟨_, hn⟩ | ⟨_, _, _, e, _⟩ <;> first | omega | cases e)
            have b4 : Below w3.heap.size w3 (w3.alloc (.cells #[.string z.1.sum, .int .i64 z.1.born, .string z.1.text, .slice (some ad) z.1.refs.length rc] 59)) := (Below.refl _ _).alloc (Nat.le_refl _) _
            have hg4' : w3.grownBy w4 (some g) := grown_trans (grown_below _ b4) hg4
            have hz2 : z.2 = .slice (some ad) z.1.refs.length rc := H4.out
            have hDl : (dropZ (zs.take (k + 1)) s).length = (dropZ (zs.take k) s).length + 1 := by rw [HSe.out]; simp
            have hDc : rowC kC (dropZ (zs.take (k + 1)) s) = rowC kC (dropZ (zs.take k) s) ++ kC (z.1, .slice (some ad) z.1.refs.length rc) := by
              rw [HSe.out, row_append, ← hz2]
              simp [rowC]
            have HF : Hid (w4.ownsRow (w.heap.size + 2) 59 4 (.slice (some ⟨g4, 0, none⟩) (dropZ (zs.take (k + 1)) s).length c4) (dropZ (zs.take (k + 1)) s).length (rowC kC (dropZ (zs.take (k + 1)) s)) ∧ (∀ y ∈ zs.take (k + 1), ¬ s ∈ y.1.refs) ∧ CellsAt w4 w.heap.size [.int .i64 wd, .int .i64 now, .int .i64 given, .int .i64 births, .slice (some ⟨b, off, none⟩) zs.length ac, .slice p ps.length pc, .slice l ls.length lc] ∧ CellsAt w4 (w.heap.size + 1) z12 ∧ Below w.heap.size w w4) := by
              refine ⟨by rw [hDl, hDc]; exact ho4, HNo.out, ?_, ?_, hbel.grown hg4' (by omega) (fun q hq => by cases hq; omega)⟩
              · exact CellsAt.far' HI.out.2.2.1 hg4' (by omega)
              · exact CellsAt.far' (v := .int .i64 0) HI.out.2.2.2.1 hg4' (by omega)
            clear ho4 hg4 hg4' hn4 ha4 b4 hDc hz2 c0 c1 c2 c3 v0 v1 v2 v3 v4 v5 v6
            have HDl : Hid _ := hDl
            clear hDl
            go_wp2
            exact ⟨⟨k + 1, g4, c4, by omega, by go_num, by rw [HDl.out], HF⟩, by simp [intOf]; omega⟩
      · obtain rfl : k = zs.length := by omega
        have hIe := HI.out
        rw [List.take_of_length_le (Nat.le_refl _)] at hIe
        obtain ⟨h1, h2, h3, h4, h5⟩ := hIe
        have hgl := own_lt h1 (g := g) rfl
        have HE : Hid _ := And.intro h1 (And.intro h2 h5)
        obtain ⟨⟨y0, q0⟩, ⟨y1, q1⟩, ⟨y2, q2⟩, ⟨y3, q3⟩, ⟨y4, q4⟩, ⟨y5, q5⟩, ⟨y6, q6⟩, ⟨y7, q7⟩, ⟨y8, q8⟩, ⟨y9, q9⟩, ⟨y10, q10⟩, y11, q11⟩ := z12at h4
        have f4 := (h3 4 _ rfl).2
        have H3 : Hid _ := h3
        clear h1 h2 h3 h4 h5
        rw [List.take_of_length_le (Nat.le_refl _)]
        go_wp2
        have T : ∀ a0 a1 a2 a3 a4 a5 a6 a7 a8 a9 a10 a11 c4, Tn [w.heap.size, w.heap.size + 1] wr _ := fun a0 a1 a2 a3 a4 a5 a6 a7 a8 a9 a10 a11 c4 => (Tn.set (V := [w.heap.size, w.heap.size + 1]) wr w.heap.size 4 c4 (by simp)).trans (Tn.mono (tn12 (wr.setCell ⟨w.heap.size, 4, none⟩ c4) (w.heap.size + 1) a0 a1 a2 a3 a4 a5 a6 a7 a8 a9 a10 a11) (by simp))
        refine bodyPost_ret (v := .agg #[.int .i64 0, .int .i64 wd, .int .i64 now, .int .i64 given, .int .i64 births, .slice (some ⟨g, 0, none⟩) (dropZ zs s).length c, .slice p ps.length pc, .slice l ls.length lc, .string ⟨#[]⟩, .int .i64 0, .string ⟨#[]⟩, .string ⟨#[]⟩]) (by simp [results, Tryz.results90, go_sem, y0, y1, y2, y3, y4, y5, y6, y7, y8, y9, y10, y11]) rfl ?_
        have T' := T (.int .i64 0) (.int .i64 wd) (.int .i64 now) (.int .i64 given) (.int .i64 births) (.slice (some ⟨g, 0, none⟩) (dropZ zs s).length c) (.slice p ps.length pc) (.slice l ls.length lc) (.string ⟨#[]⟩) (.int .i64 0) (.string ⟨#[]⟩) (.string ⟨#[]⟩) (.slice (some ⟨g, 0, none⟩) (dropZ zs s).length c)
        have hBX := HE.out.2.2.trans (Tn.below T' HE.out.2.2.size (by simp))
        refine ⟨hBX, .inr ⟨?_, g, c, rfl, ZRow.own (own_same HE.out.1 (fun q hq => T'.block q (own_lt HE.out.1 hq).2 (by have := (own_lt HE.out.1 hq).1; simp; omega))) (fun z hz => ?_), by omega, Nat.lt_of_lt_of_le hgl.2 T'.size⟩⟩
        · rintro (h | ⟨x, hx, hs⟩)
          · have := HOK.out.2 h
            simp at this
          · obtain ⟨z, hz, rfl⟩ := List.mem_map.1 hx
            exact HE.out.2.1 z hz hs
        · obtain ⟨i, hi⟩ := List.getElem?_of_mem (List.mem_filter.1 hz).1
          obtain ⟨_, ad, rc, e, hs⟩ := HZ.out i z hi
          exact ⟨ad, rc, e, SRow.mono (SRow.below hs hBX) hBX.size⟩
  · obtain ⟨⟨y0, q0⟩, ⟨y1, q1⟩, ⟨y2, q2⟩, ⟨y3, q3⟩, ⟨y4, q4⟩, ⟨y5, q5⟩, ⟨y6, q6⟩, ⟨y7, q7⟩, ⟨y8, q8⟩, ⟨y9, q9⟩, ⟨y10, q10⟩, y11, q11⟩ := z12at HZ2.out
    go_wp2
    refine bodyPost_ret (v := .agg #[.int .i64 6, .int .i64 0, .int .i64 0, .int .i64 0, .int .i64 0, .slice none 0 0, .slice none 0 0, .slice none 0 0, .string ⟨#[]⟩, .int .i64 0, .string ⟨#[]⟩, .string ⟨#[]⟩]) (by simp [results, Tryz.results90, go_sem, y0, y1, y2, y3, y4, y5, y6, y7, y8, y9, y10, y11]) rfl ⟨hB2.trans (Tn.below (tn12 w2 (w.heap.size + 1) _ _ _ _ _ _ _ _ _ _ _ _) hB2.size (by simp)), .inl ⟨.inl (HOK.out.1 trivial), rfl⟩⟩

end Go.Proofs.YthkmpihfhkmaoaaGreat
