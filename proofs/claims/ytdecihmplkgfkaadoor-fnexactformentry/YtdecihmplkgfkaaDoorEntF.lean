/-
  spec.FormEntry and impl.FormEntry.
-/
import Derived.Test.YtdecihmplkgfkaaDoorEntS
import Derived.Deep.RegionLaw
namespace Go.Proofs.YtdecihmplkgfkaaDoor
open Go.ChangeShapes Go.WideShapes Go.ChangeAt Go.RowKit

def u8 (x : Int) : UInt8 := UInt8.ofNat x.toNat

theorem u8_cell (x : Int) (h0 : 0 ≤ x) (h : x < 256) : Value.int .u8 x = .int .u8 ((u8 x).toNat : Int) := by
  have : (u8 x).toNat = x.toNat := by simp [u8]; omega
  rw [this]
  congr 1
  omega

def hdr (k n m : Int) : List UInt8 := [u8 k, u8 (n / 16777216), u8 (n / 65536 % 256), u8 (n / 256 % 256), u8 (n % 256), u8 m]

/-- The form of an entry. -/
def entB (k : Nat) (sum name : ByteArray) (n : Int) (t : ByteArray) (ss : List ByteArray) : List UInt8 :=
  hdr k n name.size ++ name.data.toList ++ sum.data.toList ++ (if k = 1 then formB t ss else [])

theorem step_append_str {P : Program} (w : World) {ops : Array Oper} {o : Oper} {a : Act} {K : Act → World → Prop} {Q : Exit → Act → World → Prop} {E : Prop} (hgd : o.guard = none) (sl x : Operand) (t u : TypeId)
    (ho : o.op = .call { callee := .builtin .append, args := #[sl, x], argTypes := #[t, u] })
    (base : Nat) (e : TypeId) (i : TypeInfo) (ht : P.underlying t = some (.slice e)) (hu : P.underlying u = some .string) (hi : P.info? e = some i) (hz : i.zero = some (.int .u8 0))
    (hsize : i.size = 1) (hby : i.bytes = 1)
    (v : Value) (n : Nat) (xs : List Value) (hs : a.eval sl = v) (hown : w.ownsRow base e 1 v n xs) (s : ByteArray) (hx : a.eval x = .string s)
    (h63 : n + s.size ≤ maxLen) (hbytes : n + s.size ≤ 140737488355328) (hbase : base ≤ w.heap.size)
    (h : ∀ v' w', w'.ownsRow base e 1 v' (n + s.size) (xs ++ Lib.strCells s) → w.grownBy w' v.ownBlock → K (a.put o.dst v') w') :
    if Region.wanted o (yielded ops a.tmps) = true then Oper.wp P o a w K Q else E := by
  have hw : Region.wanted o (yielded ops a.tmps) = true := by simp [Region.wanted, hgd]
  rw [if_pos hw]
  obtain ⟨v', w', hr, h2, h3, _⟩ := Lib.run_append_own_string (P := P) w base t u o.type e i ht hu hi hz hsize hby v n xs hown s h63 hbytes hbase
  unfold Oper.wp execOp
  simp only [ho, resolve, invoke, builtin, Sem.run_bind, Sem.run_pure, Result.andThen_ok, List.map_toArray, List.map_cons, List.map_nil, hs, hx, hr]
  exact h v' w' h2 h3

structure EntOk (k : Nat) (sum name : ByteArray) (n : Int) (t : ByteArray) (ss : List ByteArray) (wd : Int) : Prop where
  w1 : 1 ≤ wd
  w2 : wd ≤ 8
  sum : sum.size ≤ 8
  name : name.size ≤ 40
  n0 : 0 ≤ n
  n1 : n ≤ 1000000000
  thing : k = 1 → okThing t ss wd = true

theorem entOk_parts {k : Nat} {sum name : ByteArray} {n : Int} {t : ByteArray} {ss : List ByteArray} {wd : Int} (h : entOk k sum name n t ss wd = true) : EntOk k sum name n t ss wd := by
  unfold entOk at h
  simp only [Bool.and_eq_true, decide_eq_true_eq] at h
  obtain ⟨⟨h1, h2⟩, hs, hn, hu, ht⟩ := h
  refine ⟨h1, h2, ?_, ?_, ?_, ?_, ?_⟩
  · unfold sumOk at hs
    split at hs <;> simp at hs
    · omega
    · simp [hs]
  · unfold nmOk at hn
    split at hn
    · unfold nameOk at hn
      simp at hn
      omega
    · simp at hn
      simp [hn]
  · unfold numOk at hu
    split at hu <;> simp at hu <;> omega
  · have hm : kMost k ≤ 1000000000 := by
      unfold kMost
      split
      · omega
      · split <;> omega
    unfold numOk at hu
    split at hu <;> simp at hu <;> omega
  · intro hk
    subst hk
    exact ht

theorem Tryd.infoByteE : (Tryd.prog.info? 5).map (fun i => (i.zero, i.size, i.bytes)) = some (some (.int .u8 0), 1, 1) := by kernel_rfl

theorem hdr_cells (k n m : Int) (hk0 : 0 ≤ k) (hk : k < 256) (hn0 : 0 ≤ n) (hn : n ≤ 1000000000) (hm0 : 0 ≤ m) (hm : m < 256) :
    [Value.int .u8 k, .int .u8 (n / 16777216), .int .u8 (n / 65536 % 256), .int .u8 (n / 256 % 256), .int .u8 (n % 256), .int .u8 m] = Lib.byteCells (hdr k n m) := by
  rw [u8_cell k hk0 hk, u8_cell (n / 16777216) (by omega) (by omega), u8_cell (n / 65536 % 256) (by omega) (by omega), u8_cell (n / 256 % 256) (by omega) (by omega), u8_cell (n % 256) (by omega) (by omega), u8_cell m hm0 hm]
  rfl

theorem own_ne' {w : World} {base : Nat} {e : TypeId} {v : Value} {n : Nat} {xs : List Value} (h : w.ownsRow base e 1 v n xs) {b : Nat} (hb : b < base) : some b ≠ v.ownBlock := by
  intro he
  have := (h.lt b he.symm).1
  omega

set_option maxHeartbeats 1000000 in
theorem sForm_ent (k : Nat) (sum name : ByteArray) (n : Int) (t : ByteArray) (ad : Option Addr) (cap : Nat) (ss : List ByteArray) (wd : Int) (w : World) (h1 : 1 ≤ k) (h7 : k ≤ 7)
    (hrow : SRow w w.heap.size ad ss) (hl : ss.length ≤ 1048576) (ht : t.size ≤ maxLen) (hok : entOk k sum name n t ss wd = true) :
    Calls Tryd.prog 7 #[.agg (entV k sum name n t ad ss.length cap), .int .i64 wd] w fun e w' => e = .returned (.string ⟨(entB k sum name n t ss).toArray⟩) ∧ Below w.heap.size w w' := by
  have hp := entOk_parts hok
  obtain ⟨hw1, hw2, hsum, hname, hn0, hn1, hth⟩ := hp
  obtain ⟨i0, hi, hz0, hz1, hz2'⟩ := info_parts Tryd.infoByteE
  have hb0 : Below w.heap.size w (w.alloc (.cells (entV k sum name n t ad ss.length cap) 31)) := (Below.refl _ _).alloc (Nat.le_refl _) _
  go_enter Tryd.func7, Tryd.ntmps7
  go_wp2_with fail
  refine (sOk_any k sum name n t ad cap ss wd _ h1 h7 hw1 hw2 (hrow.below' hb0) hl ht (by unfold maxLen; omega)).mono ?_
  rintro e w1 ⟨rfl, hb1⟩
  rw [hok]
  have hz := hb1.size
  simp at hz
  have hlt1 : w.heap.size < w1.heap.size := by omega
  have hB1 := hb0.trans (hb1.mono (by simp))
  have x0 : w1.cell? ⟨w.heap.size, 0, none⟩ = some (.int .i64 k) := by rw [hb1.cell (p := ⟨w.heap.size, 0, none⟩) (by simp)]; simp
  have x1 : w1.cell? ⟨w.heap.size, 1, none⟩ = some (.string sum) := by rw [hb1.cell (p := ⟨w.heap.size, 1, none⟩) (by simp)]; simp
  have x2 : w1.cell? ⟨w.heap.size, 2, none⟩ = some (.string name) := by rw [hb1.cell (p := ⟨w.heap.size, 2, none⟩) (by simp)]; simp
  have x3 : w1.cell? ⟨w.heap.size, 3, none⟩ = some (.int .i64 n) := by rw [hb1.cell (p := ⟨w.heap.size, 3, none⟩) (by simp)]; simp
  have x4 : w1.cell? ⟨w.heap.size, 4, none⟩ = some (.string t) := by rw [hb1.cell (p := ⟨w.heap.size, 4, none⟩) (by simp)]; simp
  have x5 : w1.cell? ⟨w.heap.size, 5, none⟩ = some (.slice ad ss.length cap) := by rw [hb1.cell (p := ⟨w.heap.size, 5, none⟩) (by simp)]; simp
  have hrow1 := hrow.below hB1
  have HOK : Hid _ := hok
  clear hok hth hrow hb1 hb0
  obtain ⟨W2, hW2⟩ : ∃ W, W = w1.alloc (.cells #[.int .u8 k, .int .u8 (n / 16777216), .int .u8 (n / 65536 % 256), .int .u8 (n / 256 % 256), .int .u8 (n % 256), .int .u8 name.size] 5) := ⟨_, rfl⟩
  have ho2 : W2.ownsRow w1.heap.size 5 1 (.slice (some ⟨w1.heap.size, 0, none⟩) 6 6) 6 (Lib.byteCells (hdr k n name.size)) := by
    rw [hW2, ← hdr_cells k n name.size (by omega) (by omega) hn0 hn1 (by omega) (by omega)]
    exact World.ownsRow_lit w1 _ 6 (Nat.le_refl _) (by simp [maxLen]) rfl
  have hb2 : Below w1.heap.size w1 W2 := by rw [hW2]; exact (Below.refl _ _).alloc (Nat.le_refl _) _
  have hz2 := hb2.size
  have HW : Hid _ := hW2
  clear hW2
  go_wp2
  rw [← HW.out]
  have x0 : W2.cell? ⟨w.heap.size, 0, none⟩ = some (.int .i64 k) := (hb2.cell (p := ⟨w.heap.size, 0, none⟩) hlt1).trans x0
  have x1 : W2.cell? ⟨w.heap.size, 1, none⟩ = some (.string sum) := (hb2.cell (p := ⟨w.heap.size, 1, none⟩) hlt1).trans x1
  have x2 : W2.cell? ⟨w.heap.size, 2, none⟩ = some (.string name) := (hb2.cell (p := ⟨w.heap.size, 2, none⟩) hlt1).trans x2
  have x4 : W2.cell? ⟨w.heap.size, 4, none⟩ = some (.string t) := (hb2.cell (p := ⟨w.heap.size, 4, none⟩) hlt1).trans x4
  have x5 : W2.cell? ⟨w.heap.size, 5, none⟩ = some (.slice ad ss.length cap) := (hb2.cell (p := ⟨w.heap.size, 5, none⟩) hlt1).trans x5
  have hne2 := own_ne' ho2 hlt1
  go_region_law (first
    | (refine step_append_str _ rfl (.tmp 35) (.tmp 37) 39 9 rfl w1.heap.size 5 i0 Tryd.underlying39 Tryd.underlying9 hi hz0 hz1 hz2' _ 6 (Lib.byteCells (hdr k n name.size)) rfl (by exact ho2) name rfl (by unfold maxLen; omega) (by omega) (by exact hz2) ?_; intro v3 w3 ho3 hg3; have y1 := hg3.cell (a := ⟨w.heap.size, 1, none⟩) (by exact x1) hne2)
    | (refine step_append_str _ rfl (.tmp 38) (.tmp 40) 39 9 rfl w1.heap.size 5 i0 Tryd.underlying39 Tryd.underlying9 hi hz0 hz1 hz2' _ (6 + name.size) (Lib.byteCells (hdr k n name.size) ++ Lib.strCells name) rfl ho3 sum rfl (by unfold maxLen; omega) (by omega) (by have := hg3.size; simp at this; omega) ?_; intro v4 w4 ho4 hg4))
  all_goals
    have hne3 := own_ne' ho3 hlt1
    have hz3 := hg3.size
    have hz4 := hg4.size
    simp at hz3
    have z0 := hg4.cell (a := ⟨w.heap.size, 0, none⟩) (hg3.cell (a := ⟨w.heap.size, 0, none⟩) (by exact x0) hne2) hne3
    have z4 := hg4.cell (a := ⟨w.heap.size, 4, none⟩) (hg3.cell (a := ⟨w.heap.size, 4, none⟩) (by exact x4) hne2) hne3
    have z5 := hg4.cell (a := ⟨w.heap.size, 5, none⟩) (hg3.cell (a := ⟨w.heap.size, 5, none⟩) (by exact x5) hne2) hne3
    have hb4 : Below w1.heap.size w1 w4 := ((hb2.drew).grown hg3 (by exact hz2) (fun k hk => (ho2.lt k hk).1)).grown hg4 (by omega) (fun k hk => (ho3.lt k hk).1)
    obtain ⟨g4, c4, hv4, hgb, hgl⟩ := ho4.form (by omega)
    subst hv4
    have hcs : Lib.byteCells (hdr k n name.size) ++ Lib.strCells name ++ Lib.strCells sum = Lib.byteCells (hdr k n name.size ++ name.data.toList ++ sum.data.toList) := by
      rw [Lib.strCells_eq, Lib.strCells_eq, ← Lib.byteCells_append, ← Lib.byteCells_append]
    rw [hcs] at ho4
    have hB4 := hB1.trans (hb4.mono hB1.size)
    have hrow4 := hrow1.below (hb4.mono (by omega))
    clear hcs hg3 hg4 ho3 x0 x1 x2 x4 x5 y1 ho2 hb2 hne2 hne3
    by_cases hk1 : k = 1
    · subst hk1
      have hth := (entOk_parts HOK.out).thing rfl
      have hpp := okThing_parts hth
      have hbk := hpp.bulk_le
      have hts := hpp.text
      have hrf := hpp.refs
      go_wp2_with fail
      refine (sForm_yes t ad cap ss wd w4 (hrow4.mono (by omega)) hth).mono ?_
      rintro e w5 ⟨rfl, hb5⟩
      have ho5 := ho4.kept (row := none) ⟨hb5.os, hb5.tape, hb5.output, hb5.size, fun k hk _ => hb5.block k hk⟩ (.inr (by simp [Value.ownBlock]))
      have hz5 := hb5.size
      have hfl : (formB t ss).length ≤ 3000 := by
        have := flat_length ss
        simp [formB, this]
        omega
      have hfs : (ByteArray.mk (formB t ss).toArray).size = (formB t ss).length := by simp [ByteArray.size]
      have HFS : Hid _ := hfs
      clear hfs
      obtain ⟨F, hF⟩ : ∃ F, F = ByteArray.mk (formB t ss).toArray := ⟨_, rfl⟩
      rw [← hF] at HFS ⊢
      have hFs : F.size ≤ 3000 := by rw [HFS.out]; exact hfl
      have HF : Hid _ := hF
      clear hF
      go_wp2_with (at_builtin; refine Lib.wpList_append_own_string _ rfl _ _ 39 9 rfl w1.heap.size 5 i0 Tryd.underlying39 Tryd.underlying9 hi hz0 hz1 hz2' _ _ _ rfl ho5 F rfl ?c3 ?c4 ?c5 ?_)
      case c3 => unfold maxLen; omega
      case c4 => omega
      case c5 => omega
      intro v6 w6 ho6 hg6 _
      obtain ⟨g6, c6, hv6, hg61, hg62⟩ := ho6.form (by omega)
      subst hv6
      have hb6 := (hb5.mono hB4.size).grown hg6 (by omega) (fun k hk => by have := (ho5.lt k hk).1; omega)
      have hcs : Lib.byteCells (hdr 1 n name.size ++ (name.data.toList ++ sum.data.toList)) ++ Lib.strCells F = Lib.byteCells (entB 1 sum name n t ss) := by
        rw [Lib.strCells_eq, ← Lib.byteCells_append, HF.out]
        unfold entB
        rw [if_pos rfl]
        simp [List.append_assoc]
      rw [hcs] at ho6
      have hlen : 6 + name.size + sum.size + F.size = (entB 1 sum name n t ss).length := by
        rw [HFS.out]
        simp [entB, hdr]
        omega
      rw [hlen] at ho6 ⊢
      have hcv := run_convert_bytes_back (P := Tryd.prog) w6 39 9 5 ⟨g6, 0, none⟩ c6 (entB 1 sum name n t ss) Tryd.underlying39 Tryd.underlying5 Tryd.underlying9 (fun j hj => ho6.cells rfl j _ (by simp [Lib.byteCells, hj]))
      clear ho6 ho5 hcs
      go_wp2
      go_ret
      exact ⟨rfl, hB4.trans hb6⟩
    · have hkb : ((k : Int) == 1) = false := beq_eq_false_iff_ne.2 (by omega)
      have hlen : 6 + name.size + sum.size = (entB k sum name n t ss).length := by
        unfold entB
        rw [if_neg hk1]
        simp [hdr]
        omega
      have heq : hdr k n name.size ++ name.data.toList ++ sum.data.toList = entB k sum name n t ss := by
        unfold entB
        rw [if_neg hk1, List.append_nil]
      rw [heq, hlen] at ho4
      rw [hlen]
      have hcv := run_convert_bytes_back (P := Tryd.prog) w4 39 9 5 ⟨g4, 0, none⟩ c4 (entB k sum name n t ss) Tryd.underlying39 Tryd.underlying5 Tryd.underlying9 (fun j hj => ho4.cells rfl j _ (by simp [Lib.byteCells, hj]))
      clear ho4 heq
      go_wp2
      go_ret
      exact ⟨rfl, hB4⟩

end Go.Proofs.YtdecihmplkgfkaaDoor
