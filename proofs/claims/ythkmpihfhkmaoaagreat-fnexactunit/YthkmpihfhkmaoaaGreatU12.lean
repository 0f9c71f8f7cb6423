import Derived.Test.YthkmpihfhkmaoaaGreatU11
import Derived.WalkLawsBesides
import Derived.Defers
import Derived.Recover
/-
  (*impl.draft).heldSums, whole.
-/
namespace Go.Proofs.YthkmpihfhkmaoaaGreat
open Go.ChangeShapes Go.WideShapes Go.ChangeAt Go.RowKit

theorem roots_fold (ps : List Pd) (ls : List Ld) : rootsL ps ls = (ps.map (·.sum) ++ ls.map (·.sum)).foldl addS [] := by
  rw [List.foldl_append]
  rfl

set_option maxRecDepth 20000 in
set_option maxHeartbeats 8000000 in
theorem heldSums_any (base d m : Nat) (O P L : Value) (wd now given births : Int) (ks : List Kd) (ps : List Pd) (ls : List Ld) (w : World) (hd : Dr w base d m O P L wd now given births ks ps ls) (hp : ps.length ≤ 100) (hl : ls.length ≤ 200) (hps : ∀ p ∈ ps, (p.sum.size : Int) = wd) (hls : ∀ l ∈ ls, (l.sum.size : Int) = wd) (h8 : wd ≤ 8) :
    Calls Tryz.prog 133 #[.pointer (some ⟨d, 0, none⟩)] w fun e w' => ∃ V, e = .returned V ∧ ORow w' w.heap.size V (rootsL ps ls) ∧ Below w.heap.size w w' := by
  obtain ⟨pa, pcp, rfl⟩ := own_val hd.pin
  obtain ⟨la, lcp, rfl⟩ := own_val hd.lea
  have HPR : Hid (PRow w w.heap.size pa ps) := PRow.own hd.pin
  have HLR : Hid (LRow w w.heap.size la ls) := LRow.own hd.lea
  have HD : Hid _ := hd
  have hdl := hd.box.lt
  have hmf : ∀ (fn : Fn) (first cap : Array Value) (w : World), (Instr.makeFunc fn first cap).run Tryz.prog w = .ok (.func fn first cap) w := fun _ _ _ _ => rfl
  have hmm := @run_makeMap Tryz.prog
  have HPS : Hid (∀ x ∈ ps.map (·.sum), (x.size : Int) = wd) := by
    intro x hx
    obtain ⟨p, hp, rfl⟩ := List.mem_map.1 hx
    exact hps p hp
  have HLS : Hid (∀ x ∈ ls.map (·.sum), (x.size : Int) = wd) := by
    intro x hx
    obtain ⟨p, hp, rfl⟩ := List.mem_map.1 hx
    exact hls p hp
  obtain ⟨W, hW⟩ : ∃ W, W = ((w.alloc (.cells #[.slice none 0 0] 27)).alloc (.map #[] 0)).alloc (.cells #[.map (some (w.heap.size + 1))] 82) := ⟨_, rfl⟩
  have bW : Below w.heap.size w W := by rw [hW]; exact (((Below.refl _ _).alloc (Nat.le_refl _) _).alloc (by simp) _).alloc (by simp; omega) _
  have H0 : Hid (HS W w.heap.size (w.heap.size + 2) w.heap.size []) := by
    have c0 : CellsAt W w.heap.size [.slice none 0 0] := by
      rw [hW]
      exact CellsAt.below (CellsAt.below (CellsAt.new w [.slice none 0 0] 27) ((Below.refl _ _).alloc (Nat.le_refl _) _)) ((Below.refl _ _).alloc (Nat.le_refl _) _)
    have c1 : KMapC W 98 (w.heap.size + 1) 0 0 (fun _ => none) := by
      have := KMapC.new (w.alloc (.cells #[.slice none 0 0] 27)) 98
      rw [World.size_alloc] at this
      rw [hW]
      exact this.keep ((Below.refl _ _).alloc (Nat.le_refl _) _) (by simp)
    have c2 : CellsAt W (w.heap.size + 2) [.map (some (w.heap.size + 1))] := by
      have := CellsAt.new ((w.alloc (.cells #[.slice none 0 0] 27)).alloc (.map #[] 0)) [.map (some (w.heap.size + 1))] 82
      rw [World.size_alloc, World.size_alloc] at this
      rw [hW]
      exact this
    exact ⟨_, _, 0, 0, _, c0, c2, ORow.nil _ _, c1, MK.nil, Nat.le_refl _, (fun g hg => by cases hg), by omega, by omega, by omega, by omega, by omega, by omega⟩
  obtain ⟨p0, _⟩ := CellsAt.below hd.box bW 6 _ rfl
  have HW : Hid _ := hW
  clear hW hd hps hls
  go_enter Tryz.func133, Tryz.ntmps133
  go_upto_region 3 with fail
  rw [← HW.out]
  clear HW
  go_wp2
  go_loopw [17] (fun i wr => ∃ k : Nat, k ≤ ps.length ∧ i = .int .i64 k ∧ Hid (HS wr w.heap.size (w.heap.size + 2) w.heap.size ((ps.map (·.sum)).take k) ∧ Below w.heap.size w wr)) (fun i _ => ps.length - (intOf i).toNat)
  case atStart => exact ⟨0, Nat.zero_le _, rfl, H0.out, bW⟩
  case round =>
    obtain ⟨k, hk, rfl, HI⟩ := hrel
    have hbel := HI.out.2
    have hzr := hbel.size
    by_cases hlt : k < ps.length
    · obtain ⟨b, off, ha, hb, hc⟩ := (PRow.below HPR.out hbel).at hlt
      subst ha
      have HG : Hid (ps[k]? = some ps[k]) := List.getElem?_eq_getElem hlt
      obtain ⟨c0, c1⟩ := hc k _ HG.out
      have HT : Hid ((ps.map (·.sum)).take (k + 1) = (ps.map (·.sum)).take k ++ [ps[k].sum]) := by show _ = _; rw [List.take_succ_eq_append_getElem (by simpa using hlt)]; simp
      have hsx : (ps[k].sum.size : Int) = wd := HPS.out _ (List.mem_map.2 ⟨_, List.getElem_mem hlt, rfl⟩)
      clear hc
      generalize ps[k] = x at *
      obtain ⟨W1, hW1⟩ : ∃ W1, W1 = wr.alloc (.cells #[.string x.name, .string x.sum] 104) := ⟨_, rfl⟩
      have b1 : Below wr.heap.size wr W1 := by rw [hW1]; exact (Below.refl _ _).alloc (Nat.le_refl _) _
      have x1 : W1.cell? ⟨wr.heap.size, 1, none⟩ = some (.string x.sum) := by rw [hW1]; simp [go_sem]
      have HI1 : Hid (HS W1 w.heap.size (w.heap.size + 2) w.heap.size ((ps.map (·.sum)).take k)) := HI.out.1.below b1
      have HW1 : Hid _ := hW1
      have hz1 := b1.size
      have bw1 : Below w.heap.size w W1 := hbel.trans (b1.mono hzr)
      have HLt : Hid (∀ y ∈ (ps.map (·.sum)).take k, (y.size : Int) = wd) := fun y hy => HPS.out y (List.mem_of_mem_take hy)
      clear hW1 b1
      go_upto_region 7 with fail
      rw [← HW1.out]
      clear HW1 c0 c1
      go_wp2_with fail
      refine Calls.mono (addHeld_any w.heap.size (w.heap.size + 2) w.heap.size wd ((ps.map (·.sum)).take k) x.sum W1 HI1.out HLt.out hsx h8 (by simp; omega) (by omega)) ?_
      rintro e w2 ⟨⟨v, rfl⟩, hh2, hb2⟩
      have HE : Hid (HS w2 w.heap.size (w.heap.size + 2) w.heap.size ((ps.map (·.sum)).take (k + 1)) ∧ Below w.heap.size w w2) := ⟨by rw [HT.out]; exact hh2, bw1.trans hb2⟩
      clear hh2 hb2
      go_wp2
      exact ⟨⟨k + 1, by omega, by go_num, HE⟩, by simp [intOf]; omega⟩
    · have hke : (ps.map (·.sum)).take k = ps.map (·.sum) := List.take_of_length_le (by simp; omega)
      have HJ : Hid (HS wr w.heap.size (w.heap.size + 2) w.heap.size (ps.map (·.sum))) := hke ▸ HI.out.1
      obtain ⟨q0, _⟩ := CellsAt.below HD.out.box hbel 7 _ rfl
      have HB : Hid (Below w.heap.size w wr) := hbel
      clear HI hke p0 bW
      go_wp2
      go_loopw [31] (fun i wr => ∃ k : Nat, k ≤ ls.length ∧ i = .int .i64 k ∧ Hid (HS wr w.heap.size (w.heap.size + 2) w.heap.size (ps.map (·.sum) ++ (ls.map (·.sum)).take k) ∧ Below w.heap.size w wr)) (fun i _ => ls.length - (intOf i).toNat)
      case atStart => exact ⟨0, Nat.zero_le _, rfl, by simpa using HJ.out, hbel⟩
      case round =>
        clear q0 hbel hzr
        obtain ⟨k, hk, rfl, HI⟩ := hrel
        have hbel := HI.out.2
        have hzr := hbel.size
        by_cases hlt : k < ls.length
        · obtain ⟨b, off, ha, hb, hc⟩ := (LRow.below HLR.out hbel).at hlt
          subst ha
          have HG : Hid (ls[k]? = some ls[k]) := List.getElem?_eq_getElem hlt
          obtain ⟨c0, c1, c2⟩ := hc k _ HG.out
          have HT : Hid ((ls.map (·.sum)).take (k + 1) = (ls.map (·.sum)).take k ++ [ls[k].sum]) := by show _ = _; rw [List.take_succ_eq_append_getElem (by simpa using hlt)]; simp
          have hsx : (ls[k].sum.size : Int) = wd := HLS.out _ (List.mem_map.2 ⟨_, List.getElem_mem hlt, rfl⟩)
          clear hc
          generalize ls[k] = x at *
          obtain ⟨W1, hW1⟩ : ∃ W1, W1 = wr.alloc (.cells #[.int .i64 x.num, .string x.sum, .int .i64 x.til] 107) := ⟨_, rfl⟩
          have b1 : Below wr.heap.size wr W1 := by rw [hW1]; exact (Below.refl _ _).alloc (Nat.le_refl _) _
          have x1 : W1.cell? ⟨wr.heap.size, 1, none⟩ = some (.string x.sum) := by rw [hW1]; simp [go_sem]
          have HI1 : Hid (HS W1 w.heap.size (w.heap.size + 2) w.heap.size (ps.map (·.sum) ++ (ls.map (·.sum)).take k)) := HI.out.1.below b1
          have HW1 : Hid _ := hW1
          have hz1 := b1.size
          have bw1 : Below w.heap.size w W1 := hbel.trans (b1.mono hzr)
          have HLt : Hid (∀ y ∈ ps.map (·.sum) ++ (ls.map (·.sum)).take k, (y.size : Int) = wd) := fun y hy => by
            rcases List.mem_append.1 hy with hy | hy
            · exact HPS.out y hy
            · exact HLS.out y (List.mem_of_mem_take hy)
          clear hW1 b1
          go_upto_region 12 with fail
          rw [← HW1.out]
          clear HW1 c0 c1 c2
          go_wp2_with fail
          refine Calls.mono (addHeld_any w.heap.size (w.heap.size + 2) w.heap.size wd (ps.map (·.sum) ++ (ls.map (·.sum)).take k) x.sum W1 HI1.out HLt.out hsx h8 (by simp; omega) (by omega)) ?_
          rintro e w2 ⟨⟨v, rfl⟩, hh2, hb2⟩
          have HE : Hid (HS w2 w.heap.size (w.heap.size + 2) w.heap.size (ps.map (·.sum) ++ (ls.map (·.sum)).take (k + 1)) ∧ Below w.heap.size w w2) := ⟨by rw [HT.out, ← List.append_assoc]; exact hh2, bw1.trans hb2⟩
          clear hh2 hb2
          go_wp2
          exact ⟨⟨k + 1, by omega, by go_num, HE⟩, by simp [intOf]; omega⟩
        · have hke : (ls.map (·.sum)).take k = ls.map (·.sum) := List.take_of_length_le (by simp; omega)
          obtain ⟨V, b, n, c, f, h1, _, h3, _⟩ := HI.out.1
          rw [hke, ← roots_fold] at h3
          obtain ⟨va, vc, rfl, _⟩ := h3.row
          obtain ⟨s0, _⟩ := h1 0 _ rfl
          have HF : Hid (ORow wr w.heap.size (.slice va (rootsL ps ls).length vc) (rootsL ps ls)) := h3
          clear h1 h3 hke
          go_wp2
          go_ret
          exact ⟨_, rfl, HF.out, hbel⟩

end Go.Proofs.YthkmpihfhkmaoaaGreat

/-
  What is refused: (*impl.draft).drop of a thing in use; (*impl.draft).change, attempt of an EntDrop.
-/
namespace Go.Proofs.YthkmpihfhkmaoaaGreat
open Go.ChangeShapes Go.WideShapes Go.ChangeAt Go.RowKit

theorem Dr.lts {w : World} {base d m : Nat} {O P L : Value} {wd now given births : Int} {ks : List Kd} {ps : List Pd} {ls : List Ld} (hd : Dr w base d m O P L wd now given births ks ps ls) : ∀ b ∈ vB d m O P L, b < w.heap.size := by
  intro b hb
  unfold vB at hb
  simp only [List.mem_cons, List.mem_append, Option.mem_toList] at hb
  rcases hb with rfl | rfl | hb | hb | hb
  · exact hd.box.lt
  · exact (hd.map.choose_spec.choose_spec.2.1).lt
  · exact (own_lt hd.ord hb).2
  · exact (own_lt hd.pin hb).2
  · exact (own_lt hd.lea hb).2

/-- What a change that can't be made panics with. -/
def refV (c : Int) (a b : ByteArray) : Value := .iface 212 (.agg #[.int .i64 c, .string a, .string b])

set_option maxRecDepth 20000 in
set_option maxHeartbeats 2000000 in
theorem drop_held (base d m : Nat) (O P L : Value) (wd now given births : Int) (ks : List Kd) (ps : List Pd) (ls : List Ld) (s : ByteArray) (w : World) (hd : Dr w base d m O P L wd now given births ks ps ls) (hok : KsOk wd ks) (hp : ps.length ≤ 100) (hl : ls.length ≤ 200) (hth : There ks s) (huse : ((∃ p ∈ ps, p.sum = s) ∨ ∃ l ∈ ls, l.sum = s) ∨ ∃ k ∈ ks, s ∈ k.refs) :
    Calls Tryz.prog 198 #[.pointer (some ⟨d, 0, none⟩), .string s] w fun e w' => e = .panicked [{ v := refV 6 ⟨#[]⟩ ⟨#[]⟩, recovered := false }] ∧ Below w.heap.size w w' := by
  have HD : Hid _ := hd
  clear hd
  go_enter Tryz.func198, Tryz.ntmps198
  go_wp2_with fail
  refine (need_yes base d m O P L wd now given births ks ps ls s w HD.out hok.sz hth).mono ?_
  rintro e w1 ⟨rfl, hb1⟩
  have HD1 : Hid _ := Dr.below HD.out hb1
  go_wp2_with fail
  refine (isInUse_any base d m O P L wd now given births ks ps ls s w1 HD1.out hok.nd hok.sz hok.refs hok.len hp hl).mono ?_
  rintro e w2 ⟨ok, rfl, hok2, hb2⟩
  obtain rfl := hok2.2 huse
  clear hok2 HD1
  go_wp2
  exact ⟨rfl, rfl, hb1.trans (hb2.mono hb1.size)⟩

/-- A new Changed. -/
def z12 : List Value := [.int .i64 0, .int .i64 0, .int .i64 0, .int .i64 0, .int .i64 0, .slice none 0 0, .slice none 0 0, .slice none 0 0, .string ⟨#[]⟩, .int .i64 0, .string ⟨#[]⟩, .string ⟨#[]⟩]

theorem z12at {w : World} {b : Nat} (h : CellsAt w b z12) : (w.cell? ⟨b, 0, none⟩ = some (.int .i64 0) ∧ w.frozen? ⟨b, 0, none⟩ = false) ∧ (w.cell? ⟨b, 1, none⟩ = some (.int .i64 0) ∧ w.frozen? ⟨b, 1, none⟩ = false) ∧ (w.cell? ⟨b, 2, none⟩ = some (.int .i64 0) ∧ w.frozen? ⟨b, 2, none⟩ = false) ∧ (w.cell? ⟨b, 3, none⟩ = some (.int .i64 0) ∧ w.frozen? ⟨b, 3, none⟩ = false) ∧ (w.cell? ⟨b, 4, none⟩ = some (.int .i64 0) ∧ w.frozen? ⟨b, 4, none⟩ = false) ∧ (w.cell? ⟨b, 5, none⟩ = some (.slice none 0 0) ∧ w.frozen? ⟨b, 5, none⟩ = false) ∧ (w.cell? ⟨b, 6, none⟩ = some (.slice none 0 0) ∧ w.frozen? ⟨b, 6, none⟩ = false) ∧ (w.cell? ⟨b, 7, none⟩ = some (.slice none 0 0) ∧ w.frozen? ⟨b, 7, none⟩ = false) ∧ (w.cell? ⟨b, 8, none⟩ = some (.string ⟨#[]⟩) ∧ w.frozen? ⟨b, 8, none⟩ = false) ∧ (w.cell? ⟨b, 9, none⟩ = some (.int .i64 0) ∧ w.frozen? ⟨b, 9, none⟩ = false) ∧ (w.cell? ⟨b, 10, none⟩ = some (.string ⟨#[]⟩) ∧ w.frozen? ⟨b, 10, none⟩ = false) ∧ (w.cell? ⟨b, 11, none⟩ = some (.string ⟨#[]⟩) ∧ w.frozen? ⟨b, 11, none⟩ = false) :=
  ⟨h 0 _ rfl, h 1 _ rfl, h 2 _ rfl, h 3 _ rfl, h 4 _ rfl, h 5 _ rfl, h 6 _ rfl, h 7 _ rfl, h 8 _ rfl, h 9 _ rfl, h 10 _ rfl, h 11 _ rfl⟩

theorem tn12 (w : World) (R : Nat) (a0 a1 a2 a3 a4 a5 a6 a7 a8 a9 a10 a11 : Value) : Tn [R] w ((((((((((((w.setCell ⟨R, 0, none⟩ a0).setCell ⟨R, 1, none⟩ a1).setCell ⟨R, 2, none⟩ a2).setCell ⟨R, 3, none⟩ a3).setCell ⟨R, 4, none⟩ a4).setCell ⟨R, 5, none⟩ a5).setCell ⟨R, 6, none⟩ a6).setCell ⟨R, 7, none⟩ a7).setCell ⟨R, 8, none⟩ a8).setCell ⟨R, 9, none⟩ a9).setCell ⟨R, 10, none⟩ a10).setCell ⟨R, 11, none⟩ a11) :=
  have h : ∀ (x : World) (j : Nat) (v : Value), Tn [R] x (x.setCell ⟨R, j, none⟩ v) := fun x j v => Tn.set x R j v (by simp)
  (((((((((((h w 0 a0).trans (h _ 1 a1)).trans (h _ 2 a2)).trans (h _ 3 a3)).trans (h _ 4 a4)).trans (h _ 5 a5)).trans (h _ 6 a6)).trans (h _ 7 a7)).trans (h _ 8 a8)).trans (h _ 9 a9)).trans (h _ 10 a10)).trans (h _ 11 a11)

theorem Tn.fresh {V : List Nat} {w w1 w' : World} {R : Nat} (h1 : Tn V w w1) (h2 : Tn [R] w1 w') (hR : w.heap.size ≤ R) : Tn V w w' :=
  ⟨h2.os.trans h1.os, h2.tape.trans h1.tape, h2.output.trans h1.output, Nat.le_trans h1.size h2.size, fun b hb hv => (h2.block b (Nat.lt_of_lt_of_le hb h1.size) (by simp; omega)).trans (h1.block b hb hv)⟩

/-- The entry that drops a thing. -/
def dropE (s : ByteArray) : Array Value := #[.int .i64 7, .string s, .string ⟨#[]⟩, .int .i64 0, .string ⟨#[]⟩, .slice none 0 0]

set_option maxRecDepth 20000 in
set_option maxHeartbeats 4000000 in
theorem changeDrop_yes (base d m : Nat) (O P L : Value) (wd now given births : Int) (ks : List Kd) (ps : List Pd) (ls : List Ld) (s : ByteArray) (w : World) (hd : Dr w base d m O P L wd now given births ks ps ls) (hok : KsOk wd ks) (hp : ps.length ≤ 100) (hl : ls.length ≤ 200) (hth : There ks s) (hfree : ¬ (((∃ p ∈ ps, p.sum = s) ∨ ∃ l ∈ ls, l.sum = s) ∨ ∃ k ∈ ks, s ∈ k.refs)) :
    Calls Tryz.prog 165 #[.pointer (some ⟨d, 0, none⟩), .agg (dropE s)] w fun e w' => e = .returned (.agg z12.toArray) ∧ ∃ O', Dr w' base d m O' P L wd now given births (dropK ks s) ps ls ∧ O'.ownBlock = O.ownBlock ∧ Tn (vB d m O P L) w w' := by
  obtain ⟨W, hW⟩ : ∃ W, W = ((w.alloc (.cells #[.int .i64 7, .string s, .string ⟨#[]⟩, .int .i64 0, .string ⟨#[]⟩, .slice none 0 0] 174)).alloc (.cells #[.int .i64 0, .int .i64 0, .int .i64 0, .int .i64 0, .int .i64 0, .slice none 0 0, .slice none 0 0, .slice none 0 0, .string ⟨#[]⟩, .int .i64 0, .string ⟨#[]⟩, .string ⟨#[]⟩] 129)).alloc (.cells #[.int .i64 0, .int .i64 0, .int .i64 0, .int .i64 0, .int .i64 0, .slice none 0 0, .slice none 0 0, .slice none 0 0, .string ⟨#[]⟩, .int .i64 0, .string ⟨#[]⟩, .string ⟨#[]⟩] 129) := ⟨_, rfl⟩
  have hB : Below w.heap.size w W := by rw [hW]; exact (((Below.refl _ _).alloc (Nat.le_refl _) _).alloc (by simp) _).alloc (by simp; omega) _
  have hzW : W.heap.size = w.heap.size + 3 := by rw [hW]; simp
  have e0 : W.cell? ⟨w.heap.size, 0, none⟩ = some (.int .i64 7) := by rw [hW]; simp [go_sem]
  have e1 : W.cell? ⟨w.heap.size, 1, none⟩ = some (.string s) := by rw [hW]; simp [go_sem]
  have zR : CellsAt W (w.heap.size + 1) z12 := by
    have h1 := CellsAt.new (w.alloc (.cells #[.int .i64 7, .string s, .string ⟨#[]⟩, .int .i64 0, .string ⟨#[]⟩, .slice none 0 0] 174)) z12 129
    rw [World.size_alloc] at h1
    rw [hW]
    exact CellsAt.below (v := .int .i64 0) h1 ((Below.refl _ _).alloc (Nat.le_refl _) _)
  have zO : CellsAt W (w.heap.size + 2) z12 := by
    have h1 := CellsAt.new ((w.alloc (.cells #[.int .i64 7, .string s, .string ⟨#[]⟩, .int .i64 0, .string ⟨#[]⟩, .slice none 0 0] 174)).alloc (.cells z12.toArray 129)) z12 129
    rw [World.size_alloc, World.size_alloc] at h1
    rw [hW]
    exact h1
  have HD : Hid _ := hd.below hB
  have HV : Hid (∀ b ∈ vB d m O P L, b < w.heap.size) := by
    intro b hb
    unfold vB at hb
    simp only [List.mem_cons, List.mem_append, Option.mem_toList] at hb
    rcases hb with rfl | rfl | hb | hb | hb
    · exact hd.box.lt
    · exact (hd.map.choose_spec.choose_spec.2.1).lt
    · exact (own_lt hd.ord hb).2
    · exact (own_lt hd.pin hb).2
    · exact (own_lt hd.lea hb).2
  have HR : Hid (W.heap[w.heap.size + 1]? = some (.cells #[.int .i64 0, .int .i64 0, .int .i64 0, .int .i64 0, .int .i64 0, .slice none 0 0, .slice none 0 0, .slice none 0 0, .string ⟨#[]⟩, .int .i64 0, .string ⟨#[]⟩, .string ⟨#[]⟩] 129)) := by
    show _ = _
    rw [hW, Below.heap_alloc _ _ _ (by simp)]
    have := heap_alloc_new (w.alloc (.cells #[.int .i64 7, .string s, .string ⟨#[]⟩, .int .i64 0, .string ⟨#[]⟩, .slice none 0 0] 174)) (.cells #[.int .i64 0, .int .i64 0, .int .i64 0, .int .i64 0, .int .i64 0, .slice none 0 0, .slice none 0 0, .slice none 0 0, .string ⟨#[]⟩, .int .i64 0, .string ⟨#[]⟩, .string ⟨#[]⟩] 129)
    rw [World.size_alloc] at this
    exact this
  have hbase : base ≤ w.heap.size := by have := hd.bd; have := hd.box.lt; omega
  have HW : Hid _ := hW
  have HZ : Hid _ := And.intro zR zO
  have HzW : Hid _ := hzW
  clear hW hd zR zO hzW
  unfold dropE
  go_enter Tryz.func165, Tryz.ntmps165
  go_upto_region 2 with fail
  rw [← HW.out]
  clear HW
  go_wp2_with fail
  refine (drop_yes base d m O P L wd now given births ks ps ls s W HD.out hok hp hl hth hfree).mono ?_
  rintro e w1 ⟨rfl, O', hd1, hO, ht1⟩
  have zR1 : CellsAt w1 (w.heap.size + 1) z12 := CellsAt.same HZ.out.1 (ht1.block _ (by have := HzW.out; omega) (fun h => by have := HV.out _ h; omega))
  have zO1 : CellsAt w1 (w.heap.size + 2) z12 := CellsAt.same HZ.out.2 (ht1.block _ (by have := HzW.out; omega) (fun h => by have := HV.out _ h; omega))
  obtain ⟨⟨y0, q0⟩, ⟨y1, q1⟩, ⟨y2, q2⟩, ⟨y3, q3⟩, ⟨y4, q4⟩, ⟨y5, q5⟩, ⟨y6, q6⟩, ⟨y7, q7⟩, ⟨y8, q8⟩, ⟨y9, q9⟩, ⟨y10, q10⟩, y11, q11⟩ := z12at zR1
  obtain ⟨⟨v0, _⟩, ⟨v1, _⟩, ⟨v2, _⟩, ⟨v3, _⟩, ⟨v4, _⟩, ⟨v5, _⟩, ⟨v6, _⟩, ⟨v7, _⟩, ⟨v8, _⟩, ⟨v9, _⟩, ⟨v10, _⟩, v11, _⟩ := z12at zO1
  have H1 : Hid _ := And.intro hd1 (And.intro hO ht1)
  clear hd1 hO ht1 zR1 zO1 e0 e1 HD
  go_wp2
  have hRv : w.heap.size + 1 ∉ vB d m O' P L := fun h => by
    have : w.heap.size + 1 ∈ vB d m O P L := by
      unfold vB at h ⊢
      rw [H1.out.2.1] at h
      exact h
    have := HV.out _ this
    omega
  have hRs : ∀ cur fz, w1.heap[w.heap.size + 1]? ≠ some (.cells cur 9 fz) := fun cur fz e => by
    have h1 := H1.out.2.2.block (w.heap.size + 1) (by have := HzW.out; omega) (fun h => by have := HV.out _ h; omega)
    rw [e, HR.out] at h1
    simp at h1
  refine bodyPost_ret (v := .agg z12.toArray) (by simp [results, Tryz.results165, go_sem, y0, y1, y2, y3, y4, y5, y6, y7, y8, y9, y10, y11, z12]) rfl ⟨rfl, O', Dr.apart H1.out.1 (tn12 w1 _ _ _ _ _ _ _ _ _ _ _ _ _) (by omega) hRv hRs, H1.out.2.1, Tn.fresh ((Tn.of hB).trans H1.out.2.2) (tn12 w1 _ _ _ _ _ _ _ _ _ _ _ _ _) (by omega)⟩

set_option maxRecDepth 20000 in
set_option maxHeartbeats 4000000 in
theorem changeDrop_held (base d m : Nat) (O P L : Value) (wd now given births : Int) (ks : List Kd) (ps : List Pd) (ls : List Ld) (s : ByteArray) (w : World) (hd : Dr w base d m O P L wd now given births ks ps ls) (hok : KsOk wd ks) (hp : ps.length ≤ 100) (hl : ls.length ≤ 200) (hth : There ks s) (huse : ((∃ p ∈ ps, p.sum = s) ∨ ∃ l ∈ ls, l.sum = s) ∨ ∃ k ∈ ks, s ∈ k.refs) :
    Calls Tryz.prog 165 #[.pointer (some ⟨d, 0, none⟩), .agg (dropE s)] w fun e w' => e = .panicked [{ v := refV 6 ⟨#[]⟩ ⟨#[]⟩, recovered := false }] ∧ Below w.heap.size w w' := by
  obtain ⟨W, hW⟩ : ∃ W, W = ((w.alloc (.cells #[.int .i64 7, .string s, .string ⟨#[]⟩, .int .i64 0, .string ⟨#[]⟩, .slice none 0 0] 174)).alloc (.cells #[.int .i64 0, .int .i64 0, .int .i64 0, .int .i64 0, .int .i64 0, .slice none 0 0, .slice none 0 0, .slice none 0 0, .string ⟨#[]⟩, .int .i64 0, .string ⟨#[]⟩, .string ⟨#[]⟩] 129)).alloc (.cells #[.int .i64 0, .int .i64 0, .int .i64 0, .int .i64 0, .int .i64 0, .slice none 0 0, .slice none 0 0, .slice none 0 0, .string ⟨#[]⟩, .int .i64 0, .string ⟨#[]⟩, .string ⟨#[]⟩] 129) := ⟨_, rfl⟩
  have hB : Below w.heap.size w W := by rw [hW]; exact (((Below.refl _ _).alloc (Nat.le_refl _) _).alloc (by simp) _).alloc (by simp; omega) _
  have e0 : W.cell? ⟨w.heap.size, 0, none⟩ = some (.int .i64 7) := by rw [hW]; simp [go_sem]
  have e1 : W.cell? ⟨w.heap.size, 1, none⟩ = some (.string s) := by rw [hW]; simp [go_sem]
  have HD : Hid _ := hd.below hB
  have HW : Hid _ := hW
  clear hW hd
  unfold dropE
  go_enter Tryz.func165, Tryz.ntmps165
  go_upto_region 2 with fail
  rw [← HW.out]
  clear HW
  go_wp2_with fail
  refine (drop_held base d m O P L wd now given births ks ps ls s W HD.out hok hp hl hth huse).mono ?_
  rintro e w1 ⟨rfl, hb1⟩
  exact ⟨rfl, rfl, hB.trans (hb1.mono hB.size)⟩

set_option maxRecDepth 20000 in
set_option maxHeartbeats 1000000 in
/-- The deferred closure of attempt, in a frame that returns. -/
theorem catch_idle (p : Addr) (w : World) :
    CallsD Tryz.prog 164 #[.pointer (some p)] .returning w fun e u' w' => e = .returned (.tuple #[]) ∧ u' = .returning ∧ w' = w := by
  have hnil : ∀ w : World, (binOp BinOp.eql 20 .nilIface .nilIface).run Tryz.prog w = .ok (.bool true) w := fun _ => by kernel_rfl
  refine callsD_of_wpS Tryz.func164 rfl fun c₀ cs hu => ?_
  apply wpS_seq
  apply wpS_region
  simp [wpOpsS, go_sem, recoverD, hu, Tryz.ntmps164, Exit.thenS]
  refine wpS_of_wp ?_
  change Code.wp Tryz.prog _ _ { tmps := #[Value.pointer (some p), undef, undef, undef, Value.nilIface, undef, undef, undef, undef, undef, undef, undef, undef, undef, undef, undef, undef], defers := [] } w
  go_wp2
  cases c₀
  simp_all [bodyPostS, results, Tryz.results164]

theorem set12 {w : World} {b : Nat} (h : CellsAt w b z12) (a0 a1 a2 a3 a4 a5 a6 a7 a8 a9 a10 a11 : Value) : CellsAt ((((((((((((w.setCell ⟨b, 0, none⟩ a0).setCell ⟨b, 1, none⟩ a1).setCell ⟨b, 2, none⟩ a2).setCell ⟨b, 3, none⟩ a3).setCell ⟨b, 4, none⟩ a4).setCell ⟨b, 5, none⟩ a5).setCell ⟨b, 6, none⟩ a6).setCell ⟨b, 7, none⟩ a7).setCell ⟨b, 8, none⟩ a8).setCell ⟨b, 9, none⟩ a9).setCell ⟨b, 10, none⟩ a10).setCell ⟨b, 11, none⟩ a11) b [a0, a1, a2, a3, a4, a5, a6, a7, a8, a9, a10, a11] :=
  ((((((((((((h.set 0 a0).set 1 a1).set 2 a2).set 3 a3).set 4 a4).set 5 a5).set 6 a6).set 7 a7).set 8 a8).set 9 a9).set 10 a10).set 11 a11)

/-- What attempt answers of a refusal. -/
def refC (c : Int) (a b : ByteArray) : List Value := [.int .i64 c, .int .i64 0, .int .i64 0, .int .i64 0, .int .i64 0, .slice none 0 0, .slice none 0 0, .slice none 0 0, .string ⟨#[]⟩, .int .i64 0, .string a, .string b]

set_option maxRecDepth 20000 in
set_option maxHeartbeats 2000000 in
/-- The deferred closure of attempt, in a frame that panics. -/
theorem catch_panic (R : Nat) (c : Int) (a b : ByteArray) (w : World) (hz : CellsAt w R z12) :
    CallsD Tryz.prog 164 #[.pointer (some ⟨R, 0, none⟩)] (.panicking [{ v := refV c a b, recovered := false }]) w fun e u' w' => e = .returned (.tuple #[]) ∧ u' = .panicking [{ v := refV c a b, recovered := true }] ∧ CellsAt w' R (refC c a b) ∧ Tn [R] w w' := by
  have hnil : ∀ w : World, (binOp BinOp.eql 20 (.iface 212 (.agg #[.int .i64 c, .string a, .string b])) .nilIface).run Tryz.prog w = .ok (.bool false) w := fun _ => by first | rfl | kernel_rfl
  have hta : ∀ w : World, (Instr.typeAssert (.iface 212 (.agg #[.int .i64 c, .string a, .string b])) 20 212 true).run Tryz.prog w = .ok (.tuple #[.agg #[.int .i64 c, .string a, .string b], .bool true]) w := fun _ => by first | rfl | kernel_rfl
  obtain ⟨⟨y0, q0⟩, ⟨y1, q1⟩, ⟨y2, q2⟩, ⟨y3, q3⟩, ⟨y4, q4⟩, ⟨y5, q5⟩, ⟨y6, q6⟩, ⟨y7, q7⟩, ⟨y8, q8⟩, ⟨y9, q9⟩, ⟨y10, q10⟩, y11, q11⟩ := z12at hz
  have hRl : R < w.heap.size := CellsAt.lt (v := .int .i64 0) hz
  have hne : ¬ w.heap.size = R := by omega
  have hne' : ¬ R = w.heap.size := by omega
  unfold refV
  refine callsD_of_wpS Tryz.func164 rfl fun c₀ cs hu => ?_
  apply wpS_seq
  apply wpS_region
  simp [wpOpsS, go_sem, recoverD, hu, Tryz.ntmps164, Exit.thenS]
  refine wpS_of_wp ?_
  change Code.wp Tryz.prog _ _ { tmps := #[Value.pointer (some ⟨R, 0, none⟩), undef, undef, undef, .iface 212 (.agg #[.int .i64 c, .string a, .string b]), undef, undef, undef, undef, undef, undef, undef, undef, undef, undef, undef, undef], defers := [] } w
  go_wp2
  simp [bodyPostS, results, Tryz.results164]
  exact ⟨CellsAt.below (v := .int .i64 c) (set12 hz _ _ _ _ _ _ _ _ _ _ _ _) ((Below.refl _ _).alloc (Nat.le_refl _) _), (tn12 w R _ _ _ _ _ _ _ _ _ _ _ _).trans (Tn.of ((Below.refl _ _).alloc (Nat.le_refl _) _))⟩

set_option maxRecDepth 20000 in
set_option maxHeartbeats 4000000 in
theorem attemptDrop_yes (base d m : Nat) (O P L : Value) (wd now given births : Int) (ks : List Kd) (ps : List Pd) (ls : List Ld) (s : ByteArray) (w : World) (hd : Dr w base d m O P L wd now given births ks ps ls) (hok : KsOk wd ks) (hp : ps.length ≤ 100) (hl : ls.length ≤ 200) (hth : There ks s) (hfree : ¬ (((∃ p ∈ ps, p.sum = s) ∨ ∃ l ∈ ls, l.sum = s) ∨ ∃ k ∈ ks, s ∈ k.refs)) :
    Calls Tryz.prog 136 #[.pointer (some ⟨d, 0, none⟩), .agg (dropE s)] w fun e w' => e = .returned (.agg z12.toArray) ∧ ∃ O', Dr w' base d m O' P L wd now given births (dropK ks s) ps ls ∧ O'.ownBlock = O.ownBlock ∧ Tn (vB d m O P L) w w' := by
  have hmf : ∀ (fn : Fn) (first cap : Array Value) (w : World), (Instr.makeFunc fn first cap).run Tryz.prog w = .ok (.func fn first cap) w := fun _ _ _ _ => rfl
  obtain ⟨W, hW⟩ : ∃ W, W = (w.alloc (.cells #[.int .i64 7, .string s, .string ⟨#[]⟩, .int .i64 0, .string ⟨#[]⟩, .slice none 0 0] 174)).alloc (.cells #[.int .i64 0, .int .i64 0, .int .i64 0, .int .i64 0, .int .i64 0, .slice none 0 0, .slice none 0 0, .slice none 0 0, .string ⟨#[]⟩, .int .i64 0, .string ⟨#[]⟩, .string ⟨#[]⟩] 129) := ⟨_, rfl⟩
  have hB : Below w.heap.size w W := by rw [hW]; exact ((Below.refl _ _).alloc (Nat.le_refl _) _).alloc (by simp) _
  have hzW : W.heap.size = w.heap.size + 2 := by rw [hW]; simp
  have e0 : W.cell? ⟨w.heap.size, 0, none⟩ = some (.int .i64 7) := by rw [hW]; simp [go_sem]
  have e1 : W.cell? ⟨w.heap.size, 1, none⟩ = some (.string s) := by rw [hW]; simp [go_sem]
  have e2 : W.cell? ⟨w.heap.size, 2, none⟩ = some (.string ⟨#[]⟩) := by rw [hW]; simp [go_sem]
  have e3 : W.cell? ⟨w.heap.size, 3, none⟩ = some (.int .i64 0) := by rw [hW]; simp [go_sem]
  have e4 : W.cell? ⟨w.heap.size, 4, none⟩ = some (.string ⟨#[]⟩) := by rw [hW]; simp [go_sem]
  have e5 : W.cell? ⟨w.heap.size, 5, none⟩ = some (.slice none 0 0) := by rw [hW]; simp [go_sem]
  have HR : Hid (W.heap[w.heap.size + 1]? = some (.cells #[.int .i64 0, .int .i64 0, .int .i64 0, .int .i64 0, .int .i64 0, .slice none 0 0, .slice none 0 0, .slice none 0 0, .string ⟨#[]⟩, .int .i64 0, .string ⟨#[]⟩, .string ⟨#[]⟩] 129)) := by
    show _ = _
    have := heap_alloc_new (w.alloc (.cells #[.int .i64 7, .string s, .string ⟨#[]⟩, .int .i64 0, .string ⟨#[]⟩, .slice none 0 0] 174)) (.cells #[.int .i64 0, .int .i64 0, .int .i64 0, .int .i64 0, .int .i64 0, .slice none 0 0, .slice none 0 0, .slice none 0 0, .string ⟨#[]⟩, .int .i64 0, .string ⟨#[]⟩, .string ⟨#[]⟩] 129)
    rw [World.size_alloc] at this
    rw [hW]
    exact this
  have zR : CellsAt W (w.heap.size + 1) z12 := by
    have h1 := CellsAt.new (w.alloc (.cells #[.int .i64 7, .string s, .string ⟨#[]⟩, .int .i64 0, .string ⟨#[]⟩, .slice none 0 0] 174)) z12 129
    rw [World.size_alloc] at h1
    rw [hW]
    exact h1
  have HD : Hid _ := hd.below hB
  have HV : Hid (∀ b ∈ vB d m O P L, b < w.heap.size) := hd.lts
  have hbase : base ≤ w.heap.size := by have := hd.bd; have := hd.box.lt; omega
  have HW : Hid _ := hW
  have HZ : Hid _ := zR
  have HzW : Hid _ := hzW
  clear hW hd zR hzW
  unfold dropE
  go_enter_defers Tryz.func136, Tryz.ntmps136
  go_upto_region 1 with fail
  rw [← HW.out]
  clear HW
  go_wp2_with fail
  refine (changeDrop_yes base d m O P L wd now given births ks ps ls s W HD.out hok hp hl hth hfree).mono ?_
  rintro e w1 ⟨rfl, O', hd1, hO, ht1⟩
  have zR1 : CellsAt w1 (w.heap.size + 1) z12 := CellsAt.same HZ.out (ht1.block _ (by have := HzW.out; omega) (fun h => by have := HV.out _ h; omega))
  obtain ⟨⟨y0, q0⟩, ⟨y1, q1⟩, ⟨y2, q2⟩, ⟨y3, q3⟩, ⟨y4, q4⟩, ⟨y5, q5⟩, ⟨y6, q6⟩, ⟨y7, q7⟩, ⟨y8, q8⟩, ⟨y9, q9⟩, ⟨y10, q10⟩, y11, q11⟩ := z12at zR1
  have H1 : Hid _ := And.intro hd1 (And.intro hO ht1)
  clear hd1 hO ht1 zR1 e0 e1 e2 e3 e4 e5 HD
  unfold z12
  go_wp2
  refine leaves_cons (f := 164) (args := #[.pointer (some ⟨w.heap.size + 1, 0, none⟩)]) (by simp) (by simp [go_sem]) ?_
  refine (catch_idle ⟨w.heap.size + 1, 0, none⟩ _).mono ?_
  rintro e u' w'' ⟨rfl, rfl, rfl⟩
  have hRv : w.heap.size + 1 ∉ vB d m O' P L := fun h => by
    have : w.heap.size + 1 ∈ vB d m O P L := by
      unfold vB at h ⊢
      rw [H1.out.2.1] at h
      exact h
    have := HV.out _ this
    omega
  have hRs : ∀ cur fz, w1.heap[w.heap.size + 1]? ≠ some (.cells cur 9 fz) := fun cur fz e => by
    have h1 := H1.out.2.2.block (w.heap.size + 1) (by have := HzW.out; omega) (fun h => by have := HV.out _ h; omega)
    rw [e, HR.out] at h1
    simp at h1
  simp [Leaves, settle, results, Tryz.results136, go_sem, y0, y1, y2, y3, y4, y5, y6, y7, y8, y9, y10, y11]
  exact ⟨rfl, O', Dr.apart H1.out.1 (tn12 w1 _ _ _ _ _ _ _ _ _ _ _ _ _) (by omega) hRv hRs, H1.out.2.1, Tn.fresh ((Tn.of hB).trans H1.out.2.2) (tn12 w1 _ _ _ _ _ _ _ _ _ _ _ _ _) (by omega)⟩

set_option maxRecDepth 20000 in
set_option maxHeartbeats 4000000 in
theorem attemptDrop_held (base d m : Nat) (O P L : Value) (wd now given births : Int) (ks : List Kd) (ps : List Pd) (ls : List Ld) (s : ByteArray) (w : World) (hd : Dr w base d m O P L wd now given births ks ps ls) (hok : KsOk wd ks) (hp : ps.length ≤ 100) (hl : ls.length ≤ 200) (hth : There ks s) (huse : ((∃ p ∈ ps, p.sum = s) ∨ ∃ l ∈ ls, l.sum = s) ∨ ∃ k ∈ ks, s ∈ k.refs) :
    Calls Tryz.prog 136 #[.pointer (some ⟨d, 0, none⟩), .agg (dropE s)] w fun e w' => e = .returned (.agg (refC 6 ⟨#[]⟩ ⟨#[]⟩).toArray) ∧ Below w.heap.size w w' := by
  have hmf : ∀ (fn : Fn) (first cap : Array Value) (w : World), (Instr.makeFunc fn first cap).run Tryz.prog w = .ok (.func fn first cap) w := fun _ _ _ _ => rfl
  obtain ⟨W, hW⟩ : ∃ W, W = (w.alloc (.cells #[.int .i64 7, .string s, .string ⟨#[]⟩, .int .i64 0, .string ⟨#[]⟩, .slice none 0 0] 174)).alloc (.cells #[.int .i64 0, .int .i64 0, .int .i64 0, .int .i64 0, .int .i64 0, .slice none 0 0, .slice none 0 0, .slice none 0 0, .string ⟨#[]⟩, .int .i64 0, .string ⟨#[]⟩, .string ⟨#[]⟩] 129) := ⟨_, rfl⟩
  have hB : Below w.heap.size w W := by rw [hW]; exact ((Below.refl _ _).alloc (Nat.le_refl _) _).alloc (by simp) _
  have hzW : W.heap.size = w.heap.size + 2 := by rw [hW]; simp
  have e0 : W.cell? ⟨w.heap.size, 0, none⟩ = some (.int .i64 7) := by rw [hW]; simp [go_sem]
  have e1 : W.cell? ⟨w.heap.size, 1, none⟩ = some (.string s) := by rw [hW]; simp [go_sem]
  have e2 : W.cell? ⟨w.heap.size, 2, none⟩ = some (.string ⟨#[]⟩) := by rw [hW]; simp [go_sem]
  have e3 : W.cell? ⟨w.heap.size, 3, none⟩ = some (.int .i64 0) := by rw [hW]; simp [go_sem]
  have e4 : W.cell? ⟨w.heap.size, 4, none⟩ = some (.string ⟨#[]⟩) := by rw [hW]; simp [go_sem]
  have e5 : W.cell? ⟨w.heap.size, 5, none⟩ = some (.slice none 0 0) := by rw [hW]; simp [go_sem]
  have zR : CellsAt W (w.heap.size + 1) z12 := by
    have h1 := CellsAt.new (w.alloc (.cells #[.int .i64 7, .string s, .string ⟨#[]⟩, .int .i64 0, .string ⟨#[]⟩, .slice none 0 0] 174)) z12 129
    rw [World.size_alloc] at h1
    rw [hW]
    exact h1
  have HD : Hid _ := hd.below hB
  have HW : Hid _ := hW
  have HZ : Hid _ := zR
  have HzW : Hid _ := hzW
  clear hW hd zR hzW
  unfold dropE
  go_enter_defers Tryz.func136, Tryz.ntmps136
  go_upto_region 1 with fail
  rw [← HW.out]
  clear HW
  go_wp2_with fail
  refine (changeDrop_held base d m O P L wd now given births ks ps ls s W HD.out hok hp hl hth huse).mono ?_
  rintro e w1 ⟨rfl, hb1⟩
  have zR1 : CellsAt w1 (w.heap.size + 1) z12 := CellsAt.below (v := .int .i64 0) HZ.out hb1
  clear e0 e1 e2 e3 e4 e5 HD
  refine leaves_cons (f := 164) (args := #[.pointer (some ⟨w.heap.size + 1, 0, none⟩)]) (by simp) (by simp [go_sem]) ?_
  refine (catch_panic (w.heap.size + 1) 6 ⟨#[]⟩ ⟨#[]⟩ w1 zR1).mono ?_
  rintro e u' w'' ⟨rfl, rfl, hc, ht⟩
  have y0 := (hc 0 _ rfl).1
  have y1 := (hc 1 _ rfl).1
  have y2 := (hc 2 _ rfl).1
  have y3 := (hc 3 _ rfl).1
  have y4 := (hc 4 _ rfl).1
  have y5 := (hc 5 _ rfl).1
  have y6 := (hc 6 _ rfl).1
  have y7 := (hc 7 _ rfl).1
  have y8 := (hc 8 _ rfl).1
  have y9 := (hc 9 _ rfl).1
  have y10 := (hc 10 _ rfl).1
  have y11 := (hc 11 _ rfl).1
  simp [Leaves, settle, results, Tryz.results136, go_sem, y0, y1, y2, y3, y4, y5, y6, y7, y8, y9, y10, y11]
  exact ⟨rfl, (hB.trans (hb1.mono hB.size)).trans (Tn.below ht (by have := hb1.size; have := HzW.out; omega) (by simp))⟩

end Go.Proofs.YthkmpihfhkmaoaaGreat

/-
  A clearing at work: what it holds, and what keeps it.
-/
namespace Go.Proofs.YthkmpihfhkmaoaaGreat
open Go.ChangeShapes Go.WideShapes Go.ChangeAt Go.RowKit

theorem Holds.low {W w : World} {B : Nat} {wd : Int} {ks : List Kd} {f : Lit → Option Value} (h : Holds W B wd ks f) (hb : Below B W w) : Holds w B wd ks f := by
  intro s hs
  rcases h s hs with h | ⟨u, ra, rc, h1, h2, h3, h4⟩
  · exact .inl h
  · exact .inr ⟨u, ra, rc, h1, h2, h3, SRow.below h4 hb⟩

/-- A draft's map: the Refs of its things lie below base. -/
def HU (w : World) (base m : Nat) (wd : Int) (ks : List Kd) : Prop := ∃ n f, n ≤ 1000000 ∧ KMap w 98 m n f ∧ Holds w base wd ks f

theorem HU.turn {w w' : World} {base m : Nat} {wd : Int} {ks : List Kd} {V : List Nat} (h : HU w base m wd ks) (ht : Tn V w w') (hb : base ≤ w.heap.size) (hV : ∀ b ∈ V, base ≤ b) (hm : m ∉ V) : HU w' base m wd ks := by
  obtain ⟨n, f, h1, h2, h3⟩ := h
  exact ⟨n, f, h1, KMap.same h2 (ht.block m h2.lt hm), h3.low (ht.below hb hV)⟩

theorem Dr.turnU {w w' : World} {base d m : Nat} {O P L : Value} {wd now given births : Int} {ks : List Kd} {ps : List Pd} {ls : List Ld} {V : List Nat} (h : Dr w base d m O P L wd now given births ks ps ls) (hu : HU w base m wd ks) (ht : Tn V w w') (hV : ∀ b ∈ V, base ≤ b ∧ b ∉ vB d m O P L) : Dr w' base d m O P L wd now given births ks ps ls := by
  have hlt := h.lts
  have hbase : base ≤ w.heap.size := by have := h.bd; have := h.box.lt; omega
  have hs : ∀ b ∈ vB d m O P L, w'.heap[b]? = w.heap[b]? := fun b hb => ht.block b (hlt b hb) (fun e => (hV b e).2 hb)
  have hd : d ∈ vB d m O P L := by simp [vB]
  have hm : m ∈ vB d m O P L := by simp [vB]
  obtain ⟨n, f, h1, h2, h3⟩ := hu.turn ht hbase (fun b hb => (hV b hb).1) (fun e => (hV m e).2 hm)
  refine ⟨CellsAt.same h.box (hs d hd), ⟨n, f, h1, h2, fun s hsz => ?_⟩, own_same h.ord (fun g hg => hs g (by simp [vB, hg])), own_same h.pin (fun g hg => hs g (by simp [vB, hg])), own_same h.lea (fun g hg => hs g (by simp [vB, hg])), h.bd, h.bm, h.ap⟩
  rcases h3 s hsz with h | ⟨u, ra, rc, k1, k2, k3, k4⟩
  · exact .inl h
  · refine .inr ⟨u, ra, rc, k1, k2, k3, ?_⟩
    rcases k4 with k4 | ⟨b, off, ha, hb, hc⟩
    · exact .inl k4
    · refine .inr ⟨b, off, ha, by have := ht.size; omega, fun hv => ?_, .inl hb, hc⟩
      have : base ≤ b := by
        unfold vB at hv
        simp only [List.mem_cons, List.mem_append, Option.mem_toList] at hv
        rcases hv with rfl | rfl | hv | hv | hv
        · exact h.bd
        · exact h.bm
        · exact (own_lt h.ord hv).1
        · exact (own_lt h.pin hv).1
        · exact (own_lt h.lea hv).1
      omega

/-- A clearing's own blocks lie apart, and apart from its draft's. -/
structure ApC (c mm : Nat) (q r : Option Nat) (V : List Nat) : Prop where
  cm : c ≠ mm
  cV : c ∉ V
  mV : mm ∉ V
  q : ∀ g, q = some g → g ≠ c ∧ g ≠ mm ∧ g ∉ V ∧ r ≠ some g
  r : ∀ g, r = some g → g ≠ c ∧ g ≠ mm ∧ g ∉ V

/-- A clearing at work: qs are queued, ms are marked, ns are those that its marks know. -/
structure CM (w : World) (base c d m : Nat) (O P L : Value) (wd now given births : Int) (ks : List Kd) (ps : List Pd) (ls : List Ld) (ph top at_ ro : Int) (Q M : Value) (mm : Nat) (qs ms ns : List ByteArray) : Prop where
  dr : Dr w base d m O P L wd now given births ks ps ls
  hu : HU w base m wd ks
  box : CellsAt w c (clC d ph Q M top at_ ro mm (.slice none 0 0))
  cb : CBlk w c
  q : ORow w base Q qs
  mr : ORow w base M ms
  mks : ∃ n cc f, KMapC w 98 mm n cc f ∧ MK ns f cc ∧ n ≤ ns.length
  ap : ApC c mm (sBlk Q) (sBlk M) (vB d m O P L)
  bc : base ≤ c
  bm : base ≤ mm

variable {w w' : World} {base c d m : Nat} {O P L : Value} {wd now given births : Int} {ks : List Kd} {ps : List Pd} {ls : List Ld} {ph top at_ ro : Int} {Q M : Value} {mm : Nat} {qs ms ns : List ByteArray}

theorem CM.lo (h : CM w base c d m O P L wd now given births ks ps ls ph top at_ ro Q M mm qs ms ns) : base ≤ w.heap.size := by
  have := h.bc; have := h.box.lt; omega

theorem CM.below (h : CM w base c d m O P L wd now given births ks ps ls ph top at_ ro Q M mm qs ms ns) (hb : Below w.heap.size w w') : CM w' base c d m O P L wd now given births ks ps ls ph top at_ ro Q M mm qs ms ns := by
  obtain ⟨n, cc, f, h1, h2⟩ := h.mks
  exact ⟨h.dr.below hb, h.hu.turn (V := []) (Tn.of hb) h.lo (by simp) (by simp), h.box.below hb, h.cb.same (hb.block c h.box.lt), h.q.below hb, h.mr.below hb, ⟨n, cc, f, h1.keep hb h1.lt, h2⟩, h.ap, h.bc, h.bm⟩

/-- A store into the clearing's box. -/
theorem CM.put (h : CM w base c d m O P L wd now given births ks ps ls ph top at_ ro Q M mm qs ms ns) (j : Nat) (v : Value) {ph' top' at' ro' : Int} {Q' M' : Value} {qs' ms' : List ByteArray} (he : (clC d ph Q M top at_ ro mm (.slice none 0 0)).set j v = clC d ph' Q' M' top' at' ro' mm (.slice none 0 0)) (hq : ORow w base Q' qs') (hm : ORow w base M' ms') (hap : ApC c mm (sBlk Q') (sBlk M') (vB d m O P L)) :
    CM (w.setCell ⟨c, j, none⟩ v) base c d m O P L wd now given births ks ps ls ph' top' at' ro' Q' M' mm qs' ms' ns := by
  obtain ⟨n, cc, f, h1, h2⟩ := h.mks
  have ht := tn1 w c j v
  have hne : ∀ k, k ≠ c → (w.setCell ⟨c, j, none⟩ v).heap[k]? = w.heap[k]? := fun k hk => Below.heap_setCell _ _ _ _ hk
  have hcm := h.ap.cV
  refine ⟨h.dr.turnU h.hu ht (fun b hb => ?_), h.hu.turn ht h.lo (fun b hb => ?_) (fun e => ?_), he ▸ h.box.set j v, h.cb.set j v, hq.stays (by simp) (fun g hg => hne g (hap.q g hg).1), hm.stays (by simp) (fun g hg => hne g (hap.r g hg).1), ⟨n, cc, f, h1.blk (hne mm (fun e => h.ap.cm e.symm)), h2⟩, hap, h.bc, h.bm⟩
  · simp at hb; subst hb; exact ⟨h.bc, hcm⟩
  · simp at hb; subst hb; exact h.bc
  · simp at e; subst e; exact hcm (by simp [vB])

theorem tn_grown {b : Option Nat} (hg : w.grownBy w' b) : Tn b.toList w w' := ⟨hg.os, hg.tape, hg.output, hg.size, fun k hk hv => hg.block k hk (fun e => hv (by simp [← e]))⟩

/-- A row that one was appended to, and a store into the clearing's box. -/
theorem CM.pushed (h : CM w base c d m O P L wd now given births ks ps ls ph top at_ ro Q M mm qs ms ns) {b : Option Nat} (hg : w.grownBy w' b) (hb : ∀ g, b = some g → base ≤ g ∧ g ≠ c ∧ g ≠ mm ∧ g ∉ vB d m O P L) (j : Nat) (v : Value) {Q' M' : Value} {qs' ms' : List ByteArray} (he : (clC d ph Q M top at_ ro mm (.slice none 0 0)).set j v = clC d ph Q' M' top at_ ro mm (.slice none 0 0)) (hq : ORow w' base Q' qs') (hm : ORow w' base M' ms') (hap : ApC c mm (sBlk Q') (sBlk M') (vB d m O P L)) :
    CM (w'.setCell ⟨c, j, none⟩ v) base c d m O P L wd now given births ks ps ls ph top at_ ro Q' M' mm qs' ms' ns := by
  obtain ⟨n, cc, f, h1, h2⟩ := h.mks
  have ht := tn_grown hg
  have hV : ∀ g ∈ b.toList, base ≤ g ∧ g ≠ c ∧ g ≠ mm ∧ g ∉ vB d m O P L := fun g hg => hb g (by simpa using hg)
  have hcb := ht.block c h.box.lt (fun e => (hV c e).2.1 rfl)
  have hd1 := h.dr.turnU h.hu ht (fun g hg => ⟨(hV g hg).1, (hV g hg).2.2.2⟩)
  have hu1 := h.hu.turn ht h.lo (fun g hg => (hV g hg).1) (fun e => (hV m e).2.2.2 (by simp [vB]))
  have hlo : base ≤ w'.heap.size := Nat.le_trans h.lo hg.size
  have ht2 := tn1 w' c j v
  have hne : ∀ k, k ≠ c → (w'.setCell ⟨c, j, none⟩ v).heap[k]? = w'.heap[k]? := fun k hk => Below.heap_setCell _ _ _ _ hk
  refine ⟨hd1.turnU hu1 ht2 (fun b hb => ?_), hu1.turn ht2 hlo (fun b hb => ?_) (fun e => ?_), he ▸ (CellsAt.same h.box hcb).set j v, (h.cb.same hcb).set j v, hq.stays (by simp) (fun g hg => hne g (hap.q g hg).1), hm.stays (by simp) (fun g hg => hne g (hap.r g hg).1), ⟨n, cc, f, (h1.blk (ht.block mm h1.lt (fun e => (hV mm e).2.2.1 rfl))).blk (hne mm (fun e => h.ap.cm e.symm)), h2⟩, hap, h.bc, h.bm⟩
  · simp at hb; subst hb; exact ⟨h.bc, h.ap.cV⟩
  · simp at hb; subst hb; exact h.bc
  · simp at e; subst e; exact h.ap.cV (by simp [vB])

theorem CM.bumped (h : CM w base c d m O P L wd now given births ks ps ls ph top at_ ro Q M mm qs ms ns) (hg : w.grownBy w' (some mm)) {n cc : Nat} {f : Lit → Option Value} {ns' : List ByteArray} (hM : KMapC w' 98 mm n cc f) (hF : MK ns' f cc) (hn : n ≤ ns'.length) : CM w' base c d m O P L wd now given births ks ps ls ph top at_ ro Q M mm qs ms ns' := by
  have ht := tn_grown hg
  have hV : ∀ g ∈ (some mm).toList, g = mm := fun g hg => by simpa using hg
  have hb : ∀ k, k < w.heap.size → k ≠ mm → w'.heap[k]? = w.heap[k]? := fun k hk e => ht.block k hk (fun e' => e (hV k e'))
  refine ⟨h.dr.turnU h.hu ht (fun g hg => ?_), h.hu.turn ht h.lo (fun g hg => ?_) (fun e => ?_), CellsAt.same h.box (hb c h.box.lt h.ap.cm), h.cb.same (hb c h.box.lt h.ap.cm), h.q.stays ht.size (fun g hg => hb g (h.q.blk hg).2 (h.ap.q g hg).2.1), h.mr.stays ht.size (fun g hg => hb g (h.mr.blk hg).2 (h.ap.r g hg).2.1), ⟨n, cc, f, hM, hF, hn⟩, h.ap, h.bc, h.bm⟩
  · rw [hV g hg]; exact ⟨h.bm, h.ap.mV⟩
  · rw [hV g hg]; exact h.bm
  · have := hV m e; subst this; exact h.ap.mV (by simp [vB])

theorem ApC.newQ {c mm n : Nat} {q q' r : Option Nat} {V : List Nat} (h : ApC c mm q r V) (hq : q' = q ∨ q' = some n) (hc : c < n) (hm : mm < n) (hV : ∀ b ∈ V, b < n) (hr : ∀ g, r = some g → g < n) : ApC c mm q' r V := by
  refine ⟨h.cm, h.cV, h.mV, fun g hg => ?_, h.r⟩
  rcases hq with rfl | rfl
  · exact h.q g hg
  · cases hg
    exact ⟨by omega, by omega, fun e => by have := hV _ e; omega, fun e => by have := hr _ e; omega⟩

theorem ApC.newR {c mm n : Nat} {q r r' : Option Nat} {V : List Nat} (h : ApC c mm q r V) (hq : r' = r ∨ r' = some n) (hc : c < n) (hm : mm < n) (hV : ∀ b ∈ V, b < n) (hr : ∀ g, q = some g → g < n) : ApC c mm q r' V := by
  refine ⟨h.cm, h.cV, h.mV, fun g hg => ?_, fun g hg => ?_⟩
  · have h1 := h.q g hg
    refine ⟨h1.1, h1.2.1, h1.2.2.1, fun e => ?_⟩
    rcases hq with rfl | rfl
    · exact h1.2.2.2 e
    · cases e
      have := hr _ hg
      omega
  · rcases hq with rfl | rfl
    · exact h.r g hg
    · cases hg
      exact ⟨by omega, by omega, fun e => by have := hV _ e; omega⟩

/-- One more in the queue. -/
theorem CM.pushQ {a : Option Addr} {vc : Nat} (h : CM w base c d m O P L wd now given births ks ps ls ph top at_ ro (.slice a qs.length vc) M mm qs ms ns) (t : ByteArray) (hl : qs.length ≤ 100000000) :
    ∃ a' vc' w5, (Builtin.append_ #[27, 27] 27 #[.slice a qs.length vc, .slice (some ⟨w.heap.size, 0, none⟩) 1 1]).run Tryz.prog (w.alloc (.cells #[.string t] 9)) = .ok (.slice a' (qs.length + 1) vc') w5 ∧ w5.cell? ⟨c, 2, none⟩ = some (.slice a qs.length vc) ∧ w5.frozen? ⟨c, 2, none⟩ = false ∧
      CM (w5.setCell ⟨c, 2, none⟩ (.slice a' (qs.length + 1) vc')) base c d m O P L wd now given births ks ps ls ph top at_ ro (.slice a' (qs.length + 1) vc') M mm (qs ++ [t]) ms ns ∧ Tn (c :: (sBlk (.slice a qs.length vc)).toList) w (w5.setCell ⟨c, 2, none⟩ (.slice a' (qs.length + 1) vc')) ∧ Below base w (w5.setCell ⟨c, 2, none⟩ (.slice a' (qs.length + 1) vc')) := by
  have bA : Below w.heap.size w (w.alloc (.cells #[.string t] 9)) := (Below.refl _ _).alloc (Nat.le_refl _) _
  have zA : (w.alloc (.cells #[.string t] 9)).heap.size = w.heap.size + 1 := by simp
  have hA := h.below bA
  have hlo := h.lo
  obtain ⟨V', w5, hr, ho5, hg5, hb5⟩ := oappend (w.alloc (.cells #[.string t] 9)) base (.slice a qs.length vc) qs hA.q ⟨w.heap.size, 0, none⟩ 1 t (by simp [go_sem]) hl (by omega) 27
  obtain ⟨a', vc', rfl, _⟩ := ho5.row
  simp only [List.length_append, List.length_cons, List.length_nil, Nat.zero_add] at hr ho5 hb5
  obtain ⟨n, cc, f, hM, _⟩ := hA.mks
  have hap := hA.ap.newQ hb5 hA.box.lt hM.lt hA.dr.lts (fun g hg => (hA.mr.blk hg).2)
  have hgb : ∀ g, sBlk (.slice a qs.length vc) = some g → base ≤ g ∧ g ≠ c ∧ g ≠ mm ∧ g ∉ vB d m O P L := fun g hg => ⟨(hA.q.blk hg).1, (hA.ap.q g hg).1, (hA.ap.q g hg).2.1, (hA.ap.q g hg).2.2.1⟩
  have hm5 : ORow w5 base M ms := hA.mr.stays hg5.size (fun g hg => hg5.block g (hA.mr.blk hg).2 (fun e => (hA.ap.q g e.symm).2.2.2 hg))
  have hbox : CellsAt w5 c _ := CellsAt.same hA.box (hg5.block c hA.box.lt (fun e => (hgb c e.symm).2.1 rfl))
  have hC := hA.pushed hg5 hgb 2 (.slice a' (qs.length + 1) vc') rfl ho5 hm5 hap
  have hT : Tn (c :: (sBlk (.slice a qs.length vc)).toList) w (w5.setCell ⟨c, 2, none⟩ (.slice a' (qs.length + 1) vc')) := ((Tn.of bA).trans ((tn_grown hg5).mono (by simp; exact fun b h => .inr h))).trans (Tn.set _ _ _ _ (by simp))
  refine ⟨a', vc', w5, hr, (hbox 2 _ rfl).1, (hbox 2 _ rfl).2, hC, hT, hT.below hlo (fun b hb => ?_)⟩
  rcases List.mem_cons.1 hb with rfl | hb
  · exact h.bc
  · exact (hgb b (by simpa using hb)).1

/-- One more that is marked. -/
theorem CM.pushM {a : Option Addr} {vc : Nat} (h : CM w base c d m O P L wd now given births ks ps ls ph top at_ ro Q (.slice a ms.length vc) mm qs ms ns) (t : ByteArray) (hl : ms.length ≤ 100000000) :
    ∃ a' vc' w5, (Builtin.append_ #[27, 27] 27 #[.slice a ms.length vc, .slice (some ⟨w.heap.size, 0, none⟩) 1 1]).run Tryz.prog (w.alloc (.cells #[.string t] 9)) = .ok (.slice a' (ms.length + 1) vc') w5 ∧ w5.cell? ⟨c, 3, none⟩ = some (.slice a ms.length vc) ∧ w5.frozen? ⟨c, 3, none⟩ = false ∧
      CM (w5.setCell ⟨c, 3, none⟩ (.slice a' (ms.length + 1) vc')) base c d m O P L wd now given births ks ps ls ph top at_ ro Q (.slice a' (ms.length + 1) vc') mm qs (ms ++ [t]) ns ∧ Tn (c :: (sBlk (.slice a ms.length vc)).toList) w (w5.setCell ⟨c, 3, none⟩ (.slice a' (ms.length + 1) vc')) ∧ Below base w (w5.setCell ⟨c, 3, none⟩ (.slice a' (ms.length + 1) vc')) := by
  have bA : Below w.heap.size w (w.alloc (.cells #[.string t] 9)) := (Below.refl _ _).alloc (Nat.le_refl _) _
  have zA : (w.alloc (.cells #[.string t] 9)).heap.size = w.heap.size + 1 := by simp
  have hA := h.below bA
  have hlo := h.lo
  obtain ⟨V', w5, hr, ho5, hg5, hb5⟩ := oappend (w.alloc (.cells #[.string t] 9)) base (.slice a ms.length vc) ms hA.mr ⟨w.heap.size, 0, none⟩ 1 t (by simp [go_sem]) hl (by omega) 27
  obtain ⟨a', vc', rfl, _⟩ := ho5.row
  simp only [List.length_append, List.length_cons, List.length_nil, Nat.zero_add] at hr ho5 hb5
  obtain ⟨n, cc, f, hM, _⟩ := hA.mks
  have hap := hA.ap.newR hb5 hA.box.lt hM.lt hA.dr.lts (fun g hg => (hA.q.blk hg).2)
  have hgb : ∀ g, sBlk (.slice a ms.length vc) = some g → base ≤ g ∧ g ≠ c ∧ g ≠ mm ∧ g ∉ vB d m O P L := fun g hg => ⟨(hA.mr.blk hg).1, (hA.ap.r g hg).1, (hA.ap.r g hg).2.1, (hA.ap.r g hg).2.2⟩
  have hm5 : ORow w5 base Q qs := hA.q.stays hg5.size (fun g hg => hg5.block g (hA.q.blk hg).2 (fun e => (hA.ap.q g hg).2.2.2 e.symm))
  have hbox : CellsAt w5 c _ := CellsAt.same hA.box (hg5.block c hA.box.lt (fun e => (hgb c e.symm).2.1 rfl))
  have hC := hA.pushed hg5 hgb 3 (.slice a' (ms.length + 1) vc') rfl hm5 ho5 hap
  have hT : Tn (c :: (sBlk (.slice a ms.length vc)).toList) w (w5.setCell ⟨c, 3, none⟩ (.slice a' (ms.length + 1) vc')) := ((Tn.of bA).trans ((tn_grown hg5).mono (by simp; exact fun b h => .inr h))).trans (Tn.set _ _ _ _ (by simp))
  refine ⟨a', vc', w5, hr, (hbox 3 _ rfl).1, (hbox 3 _ rfl).2, hC, hT, hT.below hlo (fun b hb => ?_)⟩
  rcases List.mem_cons.1 hb with rfl | hb
  · exact h.bc
  · exact (hgb b (by simpa using hb)).1

end Go.Proofs.YthkmpihfhkmaoaaGreat

/-
  (*impl.clearing).begin.
-/
namespace Go.Proofs.YthkmpihfhkmaoaaGreat
open Go.ChangeShapes Go.WideShapes Go.ChangeAt Go.RowKit

set_option maxRecDepth 20000 in
set_option maxHeartbeats 8000000 in
theorem begin_any (base c d m : Nat) (O P L : Value) (wd now given births : Int) (ks : List Kd) (ps : List Pd) (ls : List Ld) (ph top at_ ro : Int) (Q M : Value) (mm : Nat) (qs ms ns : List ByteArray) (w : World) (h : CM w base c d m O P L wd now given births ks ps ls ph top at_ ro Q M mm qs ms ns) (hp : ps.length ≤ 100) (hl : ls.length ≤ 200) (hps : ∀ p ∈ ps, (p.sum.size : Int) = wd) (hls : ∀ l ∈ ls, (l.sum.size : Int) = wd) (h8 : wd ≤ 8) (hb0 : 0 ≤ births) (hb1 : births ≤ 1000000000) :
    Calls Tryz.prog 100 #[.pointer (some ⟨c, 0, none⟩)] w fun e w' => e = .returned (.tuple #[]) ∧ ∃ V, CM w' base c d m O P L wd now given births ks ps ls 1 births (births + 1) ro V M mm (rootsL ps ls) ms ns ∧ Below base w w' := by
  obtain ⟨W, hW⟩ : ∃ W, W = w.setCell ⟨c, 1, none⟩ (.int .i64 1) := ⟨_, rfl⟩
  have hC1 : CM W base c d m O P L wd now given births ks ps ls 1 top at_ ro Q M mm qs ms ns := by rw [hW]; exact h.put 1 (.int .i64 1) rfl h.q h.mr h.ap
  have bW : Below base w W := by rw [hW]; exact (Below.refl _ _).setCell (by simpa using h.bc) _
  obtain ⟨q1, f1⟩ := h.box 1 _ rfl
  obtain ⟨q0, _⟩ := hC1.box 0 _ rfl
  obtain ⟨q4, f4⟩ := hC1.box 4 _ rfl
  obtain ⟨q5, f5⟩ := hC1.box 5 _ rfl
  obtain ⟨d4, _⟩ := hC1.dr.box 4 _ rfl
  have hdc : ¬ d = c := fun e => hC1.ap.cV (by simp [vB, e])
  have hcd : ¬ c = d := fun e => hdc e.symm
  have hbc := h.bc
  have HC : Hid (CM W base c d m O P L wd now given births ks ps ls 1 top at_ ro Q M mm qs ms ns) := hC1
  have HW : Hid _ := hW
  have hcl := hC1.box.lt
  have hdl := hC1.dr.box.lt
  clear hW h hC1
  go_enter Tryz.func100, Tryz.ntmps100
  go_upto_region 1 with fail
  rw [← HW.out]
  clear HW q1 f1
  go_cut [] (fun wx => Hid (CM wx base c d m O P L wd now given births ks ps ls 1 births (births + 1) ro Q M mm qs ms ns ∧ Below base W wx))
  case first =>
    go_region
    all_goals
      go_wp2_with fail
      go_meet
      have k1 : CM (W.setCell ⟨c, 4, none⟩ (.int .i64 births)) base c d m O P L wd now given births ks ps ls 1 births at_ ro Q M mm qs ms ns := HC.out.put 4 (.int .i64 births) rfl HC.out.q HC.out.mr HC.out.ap
      have k2 : CM ((W.setCell ⟨c, 4, none⟩ (.int .i64 births)).setCell ⟨c, 5, none⟩ (.int .i64 (births + 1))) base c d m O P L wd now given births ks ps ls 1 births (births + 1) ro Q M mm qs ms ns := k1.put 5 (.int .i64 (births + 1)) rfl k1.q k1.mr k1.ap
      exact ⟨k2.below (Below.refl _ _).drew, (((Below.refl _ _).setCell (by simpa using hbc) _).setCell (by simpa using hbc) _).drew⟩
  case rest =>
    revert wc
    intro w2 H2
    clear q0 q4 f4 q5 f5 d4 HC
    obtain ⟨q0, _⟩ := H2.out.1.box 0 _ rfl
    go_wp2_with fail
    refine (heldSums_any base d m O P L wd now given births ks ps ls w2 H2.out.1.dr hp hl hps hls h8).mono ?_
    rintro e w3 ⟨V, rfl, hV, hb3⟩
    have k3 := H2.out.1.below hb3
    have hlo := H2.out.1.lo
    have hap : ApC c mm (sBlk V) (sBlk M) (vB d m O P L) := ⟨k3.ap.cm, k3.ap.cV, k3.ap.mV, fun g hg => by
      have hg1 := (hV.blk hg).1
      obtain ⟨n, cc, f, hM, _⟩ := H2.out.1.mks
      have h1 := H2.out.1.box.lt
      have h2 := hM.lt
      refine ⟨by omega, by omega, fun e => ?_, fun e => ?_⟩
      · have := H2.out.1.dr.lts g e; omega
      · have := (H2.out.1.mr.blk e).2; omega, k3.ap.r⟩
    have k4 : CM (w3.setCell ⟨c, 2, none⟩ V) base c d m O P L wd now given births ks ps ls 1 births (births + 1) ro V M mm (rootsL ps ls) ms ns := k3.put 2 V rfl (hV.mono hlo) k3.mr hap
    have bE : Below base w (w3.setCell ⟨c, 2, none⟩ V) := ((bW.trans H2.out.2).trans (hb3.mono hlo)).setCell (by simpa using hbc) _
    obtain ⟨va, vc, rfl, _⟩ := hV.row
    obtain ⟨q2, f2⟩ := k3.box 2 _ rfl
    have HE : Hid _ := And.intro k4 bE
    clear k3 k4 bE hap hV hb3 q0 H2 bW
    go_wp2
    exact ⟨rfl, _, results_none rfl _ _ _, rfl, _, HE.out.1, HE.out.2⟩

end Go.Proofs.YthkmpihfhkmaoaaGreat
