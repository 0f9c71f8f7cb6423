import Derived.Test.YtpekbmegopfhfaaGreatDoorW03
import Derived.Test.YtpekbmegopfhfaaGreatDoorW04
import Derived.Test.YtpekbmegopfhfaaGreatDoorW01
import Derived.Deep.RegionWith
import Derived.Deep.DrawnRows
import Derived.Deep.RegionHeld3
import Derived.WideKeyEntry
import Derived.Maps.Views
import Derived.Maps.AppendAt
import Derived.Maps.Range
import Derived.Deep.AppendLies
import Derived.Deep.RegionLaw
namespace Go.Proofs.YtpekbmegopfhfaaGreatDoor
open Go.ChangeShapes Go.WideShapes Go.ChangeAt Go.RowKit
attribute [local go_sem↓] Go.wp_at_zero Go.wp_at_succ
def keptV (u:Kd) (ra:Option Addr) (rc:Nat):Value:=.agg #[.string u.sum,.int .i64 u.born,.string u.text,.slice ra u.refs.length rc]
def Holds (W:World) (B:Nat) (wd:Int) (ks:List Kd) (f:Lit->Option Value):Prop:=
 ∀s:ByteArray,(s.size:Int)=wd->(f (keyL s)=none/\¬There ks s)∨∃u ra rc,u∈ks/\u.sum=s/\f (keyL s)=some (keptV u ra rc)/\SRow W B ra u.refs
theorem Holds.nil (W:World) (B:Nat) (wd:Int):Holds W B wd [] (fun _=>none):=fun _ _=> .inl ⟨rfl,fun ⟨_,h,_⟩=>by cases h⟩
theorem Holds.snoc {W:World} {B:Nat} {wd:Int} {ks:List Kd} {f:Lit->Option Value} (h:Holds W B wd ks f) {x:Kd} {ra:Option Addr} {rc:Nat} (hx:(x.sum.size:Int)=wd) (h8:wd<=8) (hr:SRow W B ra x.refs):Holds W B wd (ks++[x]) (upd f (keyL x.sum) (keptV x ra rc)):=by
 intro s hs
 by_cases he:keyL s=keyL x.sum
 ·have:s=x.sum:=key_inj he (by omega) (by omega)
  subst this
  exact .inr ⟨x,ra,rc,by simp,rfl,upd_same _ _ _,hr⟩
 ·rw [upd_other _ _ he]
  have hne:x.sum≠s:=fun e=>he (by rw [e])
  rcases h s hs with ⟨h1,h2⟩|⟨u,ra',rc',h1,h2,h3,h4⟩
  ·refine .inl ⟨h1,fun ⟨u,hu,e⟩=> ?_⟩
   rcases List.mem_append.1 hu with hu|hu
   ·exact h2 ⟨u,hu,e⟩
   ·simp at hu;subst hu;exact hne e
  ·exact .inr ⟨u,ra',rc',by simp [h1],h2,h3,h4⟩
theorem zeroKept (w:World):(zeroValue 114).run Tryz.prog w=.ok (.agg #[.string ⟨#[]⟩,.int .i64 0,.string ⟨#[]⟩,.slice none 0 0]) w:=by kernel_rfl
theorem KMap.setCell {w:World} {K:TypeId} {b n:Nat} {f:Lit->Option Value} (h:KMap w K b n f) {a:Addr} (ha:b≠a.block) (u:Value):KMap (w.setCell a u) K b n f:=by
 obtain ⟨D,h1,h2⟩:=h
 exact ⟨D,h1.setCell ha u,h2⟩
def FS (wr:World) (h:Nat) (m s b t r:Value) (w':World):Prop:=
 w'.cell? ⟨h+1+1+1,1,none⟩=some m/\w'.cell? ⟨wr.heap.size,0,none⟩=some s/\w'.cell? ⟨wr.heap.size,1,none⟩=some b/\w'.cell? ⟨wr.heap.size,2,none⟩=some t/\w'.cell? ⟨wr.heap.size,3,none⟩=some r
theorem FS.keep {wr w' w'':World} {h:Nat} {m s b t r:Value} (x:FS wr h m s b t r w') (hb:Below w'.heap.size w' w'') (h1:h+3<w'.heap.size) (h2:wr.heap.size<w'.heap.size):FS wr h m s b t r w'':=by
 obtain ⟨a0,a1,a2,a3,a4⟩:=x
 exact ⟨(hb.cell (p:=⟨h+1+1+1,1,none⟩) h1).trans a0,(hb.cell (p:=⟨wr.heap.size,0,none⟩) h2).trans a1,(hb.cell (p:=⟨wr.heap.size,1,none⟩) h2).trans a2,(hb.cell (p:=⟨wr.heap.size,2,none⟩) h2).trans a3,(hb.cell (p:=⟨wr.heap.size,3,none⟩) h2).trans a4⟩
theorem FS.grown {wr w' w'':World} {h q:Nat} {m s b t r:Value} (x:FS wr h m s b t r w') (hg:w'.grownBy w'' (some q)) (h1:h+1+1+1≠q) (h2:wr.heap.size≠q):FS wr h m s b t r w'':=by
 obtain ⟨a0,a1,a2,a3,a4⟩:=x
 exact ⟨hg.cell a0 (by simpa using h1),hg.cell a1 (by simpa using h2),hg.cell a2 (by simpa using h2),hg.cell a3 (by simpa using h2),hg.cell a4 (by simpa using h2)⟩
set_option maxRecDepth 20000 in
set_option maxHeartbeats 2000000 in
theorem shelfOf_any (wd now given births:Int) (a:Option Addr) (ac:Nat) (P L:Value) (ks:List Kd) (w:World) (hrow:KRow w w.heap.size a ks) (hl:ks.length<=1048576) (hsz:∀k∈ks,(k.sum.size:Int)=wd) (h8:wd<=8):
 Calls Tryz.prog 134 #[.agg #[.int .i64 wd,.int .i64 now,.int .i64 given,.int .i64 births,.slice a ks.length ac,P,L]] w fun e w'=>∃m f,e=.returned (.agg #[.int .i64 wd,.map (some m)])/\w.heap.size<=m/\KMap w' 139 m ks.length f/\Holds w w.heap.size wd ks f/\Below w.heap.size w w':=by
 have hmm:= @run_makeMap Tryz.prog
 go_enter Tryz.func134,Tryz.ntmps134
 go_wp2
 obtain ⟨W0,hW0⟩:∃W,W=((((w.alloc (Obj.cells #[Value.int IntKind.i64 wd,Value.int IntKind.i64 now,Value.int IntKind.i64 given,Value.int IntKind.i64 births,Value.slice a ks.length ac,P,L] 28)).alloc (Obj.cells #[Value.int IntKind.i64 0,Value.map none] 128)).alloc (Obj.map #[] 0)).alloc (Obj.cells #[Value.int IntKind.i64 wd,Value.map (some (w.heap.size+1+1))] 128)):=⟨_,rfl⟩
 have hB0:Below w.heap.size w W0:=by
  rw [hW0]
  exact (((((Below.refl _ _).alloc (Nat.le_refl _) _).alloc (by simp) _).alloc (by simp;omega) _).alloc (by simp;omega) _)
 have hz0:W0.heap.size=w.heap.size+4:=by rw [hW0];simp
 have hM0:KMap W0 139 (w.heap.size+1+1) 0 (fun _=>none):=by
  have:=KMap.new ((w.alloc (Obj.cells #[Value.int IntKind.i64 wd,Value.int IntKind.i64 now,Value.int IntKind.i64 given,Value.int IntKind.i64 births,Value.slice a ks.length ac,P,L] 28)).alloc (Obj.cells #[Value.int IntKind.i64 0,Value.map none] 128)) 139
  rw [hW0]
  have h2:=this.keep ((Below.refl _ _).alloc (Nat.le_refl _) (Obj.cells #[Value.int IntKind.i64 wd,Value.map (some (w.heap.size+1+1))] 128)) this.lt
  simpa using h2
 have s0:W0.cell? ⟨w.heap.size+1+1+1,0,none⟩=some (.int .i64 wd):=by rw [hW0];simp [go_sem]
 have s1:W0.cell? ⟨w.heap.size+1+1+1,1,none⟩=some (.map (some (w.heap.size+1+1))):=by rw [hW0];simp [go_sem]
 have r0:W0.cell? ⟨w.heap.size+1,0,none⟩=some (.int .i64 0):=by rw [hW0];simp [go_sem]
 have r1:W0.cell? ⟨w.heap.size+1,1,none⟩=some (.map none):=by rw [hW0];simp [go_sem]
 have rf:∀j,W0.frozen? ⟨w.heap.size+1,j,none⟩=false:=fun j=>by rw [hW0];simp [go_sem]
 rw [←hW0]
 clear hW0 hmm
 go_loopw [13] (fun i wr=>∃(k:Nat) (f:Lit->Option Value),k<=ks.length/\i=.int .i64 k/\Hid (KMap wr 139 (w.heap.size+1+1) k f)/\Hid (Holds w w.heap.size wd (ks.take k) f)/\W0.grownBy wr (some (w.heap.size+1+1))) (fun i _=>ks.length -(intOf i).toNat)
 case atStart=>exact ⟨0,_,Nat.zero_le _,rfl,hM0,by rw [List.take_zero];exact Holds.nil w w.heap.size wd,grown_refl _ _⟩
 case round=>
  obtain ⟨k,f,hk,rfl,HM,HF,hgr⟩:=hrel
  have hbel:Below w.heap.size w wr:=hB0.grown hgr (by omega) (by intro j hj;cases hj;omega)
  have t0:=hgr.cell s0 (by simp)
  have t1:=hgr.cell s1 (by simp)
  have hzr:=hgr.size
  by_cases hlt:k<ks.length
  ·obtain ⟨b,off,ha,hb,hc⟩:=(hrow.below hbel).at hlt
   subst ha
   have HG:Hid (ks[k]?=some ks[k]):=List.getElem?_eq_getElem hlt
   obtain ⟨c0,c1,c2,ra,rc,c3,_⟩:=hc k _ HG.out
   obtain ⟨b',off',ha',_,hc'⟩:=hrow.at hlt
   cases ha'
   obtain ⟨_,_,_,ra',rc',c3',hr'⟩:=hc' k _ HG.out
   have hra:ra'=ra/\rc'=rc:=by
    have:=(hbel.cell (p:=⟨b,off+k *4+3,none⟩) hb).trans c3'
    rw [c3] at this
    simp at this
    exact ⟨this.1.symm,this.2.symm⟩
   obtain ⟨rfl,rfl⟩:=hra
   have hxs:=hsz _ (List.getElem_mem hlt)
   have hbr:b<wr.heap.size:=by omega
   have HR:Hid _:=hr'
   clear hc hc' hr' c3' hsz hrow
   generalize ks[k]=x at *
   go_wp2
   have hb1:Below wr.heap.size wr (wr.alloc (Obj.cells #[Value.string x.sum,Value.int IntKind.i64 x.born,Value.string x.text,Value.slice ra' x.refs.length rc'] 114)):=(Below.refl _ _).alloc (Nat.le_refl _) _
   have hT:FS wr w.heap.size (.map (some (w.heap.size+1+1))) (.string x.sum) (.int .i64 x.born) (.string x.text) (.slice ra' x.refs.length rc') (wr.alloc (Obj.cells #[Value.string x.sum,Value.int IntKind.i64 x.born,Value.string x.text,Value.slice ra' x.refs.length rc'] 114)):=⟨(hb1.cell (p:=⟨w.heap.size+1+1+1,1,none⟩) (by simp;omega)).trans t1,by simp,by simp,by simp,by simp⟩
   have hTd:FS wr w.heap.size (.map (some (w.heap.size+1+1))) (.string x.sum) (.int .i64 x.born) (.string x.text) (.slice ra' x.refs.length rc') (wr.alloc (Obj.cells #[Value.string x.sum,Value.int IntKind.i64 x.born,Value.string x.text,Value.slice ra' x.refs.length rc'] 114)).drew:=hT
   go_region_held3 (fun w'=>w'.cell? ⟨w.heap.size+1+1+1,1,none⟩=some (.map (some (w.heap.size+1+1)))/\w'.cell? ⟨wr.heap.size,0,none⟩=some (.string x.sum)/\w'.cell? ⟨wr.heap.size,1,none⟩=some (.int .i64 x.born)/\w'.cell? ⟨wr.heap.size,2,none⟩=some (.string x.text)/\w'.cell? ⟨wr.heap.size,3,none⟩=some (.slice ra' x.refs.length rc'))
    (first|exact T3|exact T2|exact hTd)
    (first
    |(go_at_call 135;refine (key_any x.sum _).mono ?_;rintro e w2 ⟨rfl,hb2⟩;have T2:FS wr w.heap.size (.map (some (w.heap.size+1+1))) (.string x.sum) (.int .i64 x.born) (.string x.text) (.slice ra' x.refs.length rc') w2:=FS.keep hTd hb2 (by simp;omega) (by simp);have hb12:Below wr.heap.size wr w2:=hb1.drew.trans (hb2.mono (by simp));obtain ⟨w3,hup,hm3,hg3⟩:=(HM.out.keep hb12 (by omega)).put keyed Tryz.underlying126 (val:=keptV x ra' rc') (by unfold maxLen;omega) (key_lit x.sum);have T3:FS wr w.heap.size (.map (some (w.heap.size+1+1))) (.string x.sum) (.int .i64 x.born) (.string x.text) (.slice ra' x.refs.length rc') w3:=FS.grown T2 hg3 (by simp) (by simp;omega);unfold keptV at hup))
   all_goals
    have hgn:W0.grownBy w3 (some (w.heap.size+1+1)):=grown_trans hgr (grown_trans (grown_below _ hb12) hg3)
    have HN:Hid (Holds w w.heap.size wd (ks.take (k+1)) (upd f (keyL x.sum) (keptV x ra' rc'))):=by
     have:=HF.out.snoc (rc:=rc') hxs h8 HR.out
     rw [List.take_add_one,HG.out]
     exact this
    have HMn:Hid _:=hm3
    clear hm3 hup T2 T3 hg3 hb12 hb2
    go_wp2
    exact ⟨⟨k+1,_,by omega,by go_num,HMn,HN,hgn⟩,by simp [intOf];omega⟩
  ·have p0:=hgr.cell r0 (by simp)
   have p1:=hgr.cell r1 (by simp)
   have pf:∀j,wr.frozen? ⟨w.heap.size+1,j,none⟩=false:=fun j=>(hgr.frozen_far ⟨w.heap.size+1,j,none⟩ (by simp;omega) (by simp)).trans (rf j)
   rw [List.take_of_length_le (by omega)] at HF
   obtain rfl:k=ks.length:=by omega
   go_wp2
   refine bodyPost_ret (v:=.agg #[.int .i64 wd,.map (some (w.heap.size+1+1))]) (by simp [results,Tryz.results134,go_sem,p0,p1]) rfl ⟨_,f,rfl,by omega,?_,HF.out,?_⟩
   ·exact (KMap.setCell (KMap.setCell HM.out (by simp) _) (by simp) _)
   ·exact (hbel.setCell (by simp) _).setCell (by simp) _
def FD (b m:Nat) (s:ByteArray) (v:Value) (w':World):Prop:=
 w'.cell? ⟨b,1,none⟩=some (.map (some m))/\(Instr.lookup 126 (.map (some m)) (keyV s) true).run Tryz.prog w'=.ok v w'
theorem FD.of {W w':World} {b m n B:Nat} {s:ByteArray} {f:Lit->Option Value} (hc:W.cell? ⟨b,1,none⟩=some (.map (some m))) (hM:KMap W 139 m n f) (hb:b<B) (hm:m<B) (h:Below B W w'):
 FD b m s (.tuple #[(f (keyL s)).getD (.agg #[.string ⟨#[]⟩,.int .i64 0,.string ⟨#[]⟩,.slice none 0 0]),.bool (f (keyL s)).isSome]) w':=
 ⟨(h.cell (p:=⟨b,1,none⟩) hb).trans hc,(hM.keep h hm).look_ok keyed Tryz.underlying126 (zeroKept _) (key_lit s)⟩
set_option maxRecDepth 20000 in
set_option maxHeartbeats 2000000 in
theorem find_any' (wd:Int) (m n:Nat) (f:Lit->Option Value) (s:ByteArray) (w:World) (hM:KMap w 139 m n f) (hs:(s.size:Int)=wd) (u:ByteArray) (bo:Int) (t:ByteArray) (sl:Value) (ok:Bool)
 (hsl:(∃a l c,sl=.slice a l c)) (hf:(f (keyL s)).getD (.agg #[.string ⟨#[]⟩,.int .i64 0,.string ⟨#[]⟩,.slice none 0 0])=.agg #[.string u,.int .i64 bo,.string t,sl]) (hok:(f (keyL s)).isSome=ok):
 Calls Tryz.prog 123 #[.agg #[.int .i64 wd,.map (some m)],.string s] w fun e w'=>e=.returned (.tuple #[.agg #[.string u,.int .i64 bo,.string t,sl],.bool ok])/\Below w.heap.size w w':=by
 obtain ⟨sa,sb,sc,rfl⟩:=hsl
 have hml:=hM.lt
 have hb0:∀o1 o2,Below w.heap.size w ((w.alloc o1).alloc o2):=fun o1 o2=>((Below.refl _ _).alloc (Nat.le_refl _) _).alloc (by simp) _
 go_enter Tryz.func123,Tryz.ntmps123
 go_wp2
 obtain ⟨W,hW⟩:∃W,W=(w.alloc (Obj.cells #[Value.int IntKind.i64 wd,Value.map (some m)] 128)).alloc (Obj.cells #[Value.string ⟨#[]⟩,Value.int IntKind.i64 0,Value.string ⟨#[]⟩,Value.slice none 0 0] 114):=⟨_,rfl⟩
 have hz:W.heap.size=w.heap.size+1+1:=by rw [hW];simp
 have hBW:Below w.heap.size w W:=by rw [hW];exact hb0 _ _
 have c1:W.cell? ⟨w.heap.size,1,none⟩=some (.map (some m)):=by rw [hW];simp [go_sem]
 have r0:∃v,W.cell? ⟨w.heap.size+1,0,none⟩=some v:=by rw [hW];simp [go_sem]
 have r1:∃v,W.cell? ⟨w.heap.size+1,1,none⟩=some v:=by rw [hW];simp [go_sem]
 have r2:∃v,W.cell? ⟨w.heap.size+1,2,none⟩=some v:=by rw [hW];simp [go_sem]
 have r3:∃v,W.cell? ⟨w.heap.size+1,3,none⟩=some v:=by rw [hW];simp [go_sem]
 have rf:∀j,W.frozen? ⟨w.heap.size+1,j,none⟩=false:=fun j=>by rw [hW];simp [go_sem]
 obtain ⟨v0,r0⟩:=r0
 obtain ⟨v1,r1⟩:=r1
 obtain ⟨v2,r2⟩:=r2
 obtain ⟨v3,r3⟩:=r3
 have hD:∀w',Below W.heap.size W w'->FD w.heap.size m s (.tuple #[.agg #[.string u,.int .i64 bo,.string t,.slice sa sb sc],.bool ok]) w':=fun w' h=>by
  have:=FD.of (s:=s) c1 (hM.keep hBW hml) (by omega) (by omega) h
  rw [hf,hok] at this
  exact this
 have HD:Hid _:=hD
 have hN:w.heap.size+1<W.heap.size:=by omega
 have hN0:w.heap.size<W.heap.size:=by omega
 rw [←hW]
 clear hW hD hf hok hM hz
 go_region_held3 (fun w'=>w'.cell? ⟨w.heap.size,1,none⟩=some (.map (some m))/\(Instr.lookup 126 (.map (some m)) (keyV s) true).run Tryz.prog w'=.ok (.tuple #[.agg #[.string u,.int .i64 bo,.string t,.slice sa sb sc],.bool ok]) w')
  (first
    |exact HD.out _ hB2
    |exact HD.out _ (hB2.alloc (Nat.le_trans (Nat.le_refl _) hB2.size) _)
    |exact HD.out _ ((Below.refl _ _).drew.alloc (by simp) _)
    |exact HD.out _ (Below.refl _ _).drew
    |exact HD.out _ ((((hB2.setCell (by simp) _).setCell (by simp) _).setCell (by simp) _).setCell (by simp) _)
    |exact HD.out _ (hB2.alloc hB2.size _))
  (first
    |(go_at_call 135;refine (key_any s W.drew).mono ?_;rintro e w2 ⟨rfl,hb2⟩;have hB2:Below W.heap.size W w2:=(Below.refl _ _).drew.trans (hb2.mono (by simp));have hz2:=hB2.size)
    |(go_at_call 135;refine (key_any s (W.alloc _).drew).mono ?_;rintro e w2 ⟨rfl,hb2⟩;have hB2:Below W.heap.size W w2:=((Below.refl _ _).alloc (Nat.le_refl _) _).drew.trans (hb2.mono (by simp));have hz2:W.heap.size<w2.heap.size:=(by have:=hb2.size;simp at this;omega);have n0:w2.cell? ⟨W.heap.size,0,none⟩=some (.string ⟨#[]⟩):=(by rw [hb2.cell (p:=⟨W.heap.size,0,none⟩) (by simp)];simp [go_sem]);have n1:w2.cell? ⟨W.heap.size,1,none⟩=some (.int .i64 0):=(by rw [hb2.cell (p:=⟨W.heap.size,1,none⟩) (by simp)];simp [go_sem]);have n2:w2.cell? ⟨W.heap.size,2,none⟩=some (.string ⟨#[]⟩):=(by rw [hb2.cell (p:=⟨W.heap.size,2,none⟩) (by simp)];simp [go_sem]);have n3:w2.cell? ⟨W.heap.size,3,none⟩=some (.slice none 0 0):=(by rw [hb2.cell (p:=⟨W.heap.size,3,none⟩) (by simp)];simp [go_sem]);have nf:∀j,w2.frozen? ⟨W.heap.size,j,none⟩=false:=(fun j=>by rw [hb2.frozen (p:=⟨W.heap.size,j,none⟩) (by simp)];simp [go_sem])))
 all_goals
  have p0:=(hB2.cell (p:=⟨w.heap.size+1,0,none⟩) hN).trans r0
  have p1:=(hB2.cell (p:=⟨w.heap.size+1,1,none⟩) hN).trans r1
  have p2:=(hB2.cell (p:=⟨w.heap.size+1,2,none⟩) hN).trans r2
  have p3:=(hB2.cell (p:=⟨w.heap.size+1,3,none⟩) hN).trans r3
  have pf:∀j,w2.frozen? ⟨w.heap.size+1,j,none⟩=false:=fun j=>(hB2.frozen (p:=⟨w.heap.size+1,j,none⟩) hN).trans (rf j)
  have hBw:Below w.heap.size w w2:=hBW.trans (hB2.mono (by omega))
  have hlt2:w.heap.size+1<w2.heap.size:=by omega
  have hne2:¬W.heap.size=w.heap.size+1:=by omega
  have hne3:¬w.heap.size+1=W.heap.size:=by omega
  clear hb2 HD
  go_wp2
  refine bodyPost_ret (v:=.tuple #[.agg #[.string u,.int .i64 bo,.string t,.slice sa sb sc],.bool ok]) (by first|(simp [results,Tryz.results123,go_sem,p0,p1,p2,p3];done)|(simp [results,Tryz.results123,go_sem,p0,p1,p2,p3,hlt2];done)) rfl ⟨rfl,?_⟩
  first
   |(have hnf:=nf 0;exact ((((((((hBw.setCell (by simp;omega) _).setCell (by simp;omega) _).setCell (by simp;omega) _).setCell (by simp;omega) _).setCell (by simp) _).setCell (by simp) _).setCell (by simp) _).setCell (by simp) _))
   |exact (((((hBw.setCell (by simp) _).setCell (by simp) _).setCell (by simp) _).setCell (by simp) _).alloc (by simp;omega) _)
set_option maxHeartbeats 400000 in
theorem find_no (wd:Int) (m:Nat) (s:ByteArray) (w:World) (hs:¬(s.size:Int)=wd):
 Calls Tryz.prog 123 #[.agg #[.int .i64 wd,.map (some m)],.string s] w fun e w'=>e=.returned (.tuple #[.agg #[.string ⟨#[]⟩,.int .i64 0,.string ⟨#[]⟩,.slice none 0 0],.bool false])/\Below w.heap.size w w':=by
 have hs':((s.size:Int)==wd)=false:=by simpa using hs
 go_enter Tryz.func123,Tryz.ntmps123
 go_wp2
 refine bodyPost_ret (v:=.tuple #[.agg #[.string ⟨#[]⟩,.int .i64 0,.string ⟨#[]⟩,.slice none 0 0],.bool false]) (by simp [results,Tryz.results123,go_sem]) rfl ⟨rfl,?_⟩
 exact ((Below.refl _ _).alloc (Nat.le_refl _) _).alloc (by simp) _
structure Found (ks:List Kd) (s:ByteArray) (bo:Int) (ok:Bool):Prop where
 no:ok=false->¬There ks s
 yes:ok=true->∃x∈ks,x.sum=s/\x.born=bo
theorem shelf_find (wd:Int) (m n:Nat) (f:Lit->Option Value) (ks:List Kd) (W:World) (B:Nat) (s:ByteArray) (w:World) (hM:KMap w 139 m n f) (hH:Holds W B wd ks f) (hsz:∀k∈ks,(k.sum.size:Int)=wd):
 ∃u bo t sa sb sc ok,Found ks s bo ok/\∀w',Below w.heap.size w w'->Calls Tryz.prog 123 #[.agg #[.int .i64 wd,.map (some m)],.string s] w' fun e w''=>e=.returned (.tuple #[.agg #[.string u,.int .i64 bo,.string t,.slice sa sb sc],.bool ok])/\Below w'.heap.size w' w'':=by
 by_cases hs:(s.size:Int)=wd
 ·rcases hH s hs with ⟨h1,h2⟩|⟨x,ra,rc,h1,h2,h3,_⟩
  ·exact ⟨⟨#[]⟩,0,⟨#[]⟩,none,0,0,false,⟨fun _=>h2,fun h=>by cases h⟩,fun w' hb=>find_any' wd m n f s w' (hM.keep hb hM.lt) hs _ _ _ _ _ ⟨_,_,_,rfl⟩ (by rw [h1];rfl) (by rw [h1];rfl)⟩
  ·exact ⟨x.sum,x.born,x.text,ra,x.refs.length,rc,true,⟨fun h=>by (cases h),fun _=>⟨x,h1,h2,rfl⟩⟩,fun w' hb=>find_any' wd m n f s w' (hM.keep hb hM.lt) hs _ _ _ _ _ ⟨_,_,_,rfl⟩ (by rw [h3];rfl) (by rw [h3];rfl)⟩
 ·exact ⟨⟨#[]⟩,0,⟨#[]⟩,none,0,0,false,⟨fun _ ⟨x,hx,e⟩=>hs (by rw [←e];exact hsz x hx),fun h=>by cases h⟩,fun w' _=>find_no wd m s w' hs⟩
set_option maxHeartbeats 400000 in
theorem shelf_has (wd:Int) (m n:Nat) (f:Lit->Option Value) (ks:List Kd) (W:World) (B:Nat) (s:ByteArray) (w:World) (hM:KMap w 139 m n f) (hH:Holds W B wd ks f) (hsz:∀k∈ks,(k.sum.size:Int)=wd):
 ∃ok,(ok=true↔There ks s)/\∀w',Below w.heap.size w w'->Calls Tryz.prog 223 #[.agg #[.int .i64 wd,.map (some m)],.string s] w' fun e w''=>e=.returned (.bool ok)/\Below w'.heap.size w' w'':=by
 obtain ⟨u,bo,t,sa,sb,sc,ok,hfd,hcl⟩:=shelf_find wd m n f ks W B s w hM hH hsz
 refine ⟨ok,⟨fun h=> ?_,fun h=> ?_⟩,fun w' hb=> ?_⟩
 ·obtain ⟨x,hx,e,_⟩:=hfd.yes h
  exact ⟨x,hx,e⟩
 ·cases ok with
  |true=>rfl
  |false=>exact absurd h (hfd.no rfl)
 ·have hb1:Below w'.heap.size w' (w'.alloc (.cells #[.int .i64 wd,.map (some m)] 128)):=(Below.refl _ _).alloc (Nat.le_refl _) _
  have HC:Hid _:=hcl _ (hb.trans (hb1.mono hb.size))
  clear hcl hM hH hsz hfd
  go_enter Tryz.func223,Tryz.ntmps223
  go_wp2_with fail
  refine Calls.mono HC.out ?_
  rintro e w2 ⟨rfl,hb2⟩
  go_wp2
  go_ret
  exact ⟨rfl,(hb1.trans (hb2.mono (by simp))).alloc (by have:=hb2.size;simp at this;omega) _⟩
end Go.Proofs.YtpekbmegopfhfaaGreatDoor
namespace Go.Proofs.YtpekbmegopfhfaaGreatDoor
open Go.ChangeShapes Go.WideShapes Go.ChangeAt Go.RowKit
attribute [local go_sem↓] Go.wp_at_zero Go.wp_at_succ
section
open Go.WideElems Go.MapKept Go.ChangeMaps
theorem setBlock_twice (w:World) (b:Nat) (x y:Obj):setBlock (setBlock w b x) b y=setBlock w b y:=by simp [setBlock]
theorem store_run {P:Program} {w2:World} {t:TypeId} {b:Nat} {es:Array MapEntry} {clock st i:Nat} (val:Value) (hw2:w2.heap[b]?=some (.map es clock)) (hidx:es.findIdx? (fun e=>((e.born:Nat):Int)==((st:Nat):Int))=some i):
 (Instr.entryStore t (.map (some b)) (goInt st) val).run P w2=.ok () (setBlock w2 b (.map (es.modify i (fun e=>{e with val:=val})) clock)):=by
 simp [Instr.entryStore,MapKept.run_getObj_map hw2,asInt,asIntOf,goInt,hidx,MapKept.run_setObj_map _ hw2,Result.andThen,setBlock]
theorem entry_all {H:Type} {P:Program} {w:World} {t k e:TypeId} {R:Value->Option (DataW H×List MemPlace)} {b:Nat} {es:Array MapEntry} {clock:Nat} (K:Maps.Keyed P k) (ht:P.underlying t=some (.map k e)) {z:Value}
 (hz:∀u:World,(zeroValue e).run P u=.ok z u) (hb:w.heap[b]?=some (.map es clock)) (F:Fit P k R es clock) {key:Value} {kl:Lit} (hkey:keyOf P k key=some kl):
 ∃(v0:Value) (st:Nat) (w3:World),(Instr.mapEntry t (.map (some b)) key).run P w=.ok (.tuple #[v0,goInt st]) w3/\(Instr.lookup t (.map (some b)) key false).run P w=.ok v0 w/\(Instr.mapUpdate t (.map (some b)) key v0).run P w=.ok () w3/\
  ∀val:Value,∃w4,(Instr.entryStore t (.map (some b)) (goInt st) val).run P w3=.ok () w4/\(Instr.mapUpdate t (.map (some b)) key val).run P w=.ok () w4:=by
 obtain ⟨s1,s2,_⟩:=F.stamped
 rcases K.find w hkey es.toList F.keys with ⟨h1,h2⟩|⟨j,e0,h1,h2,h3⟩
 ·have hw3:(setBlock w b (.map (es.push ⟨key,z,clock⟩) (clock+1))).heap[b]?=some (.map (es.push ⟨key,z,clock⟩) (clock+1)):=heap_setBlock_same hb _
  refine ⟨z,clock,setBlock w b (.map (es.push ⟨key,z,clock⟩) (clock+1)),?_,?_,?_,fun val=>⟨setBlock w b (.map (es.push ⟨key,val,clock⟩) (clock+1)),?_,?_⟩⟩
  ·simp [Instr.mapEntry,run_underlying ht,MapKept.run_getObj_map hb,K.check w false hkey,h1,hz,MapKept.run_setObj_map _ hb,Result.andThen,setBlock]
  ·simp [Instr.lookup,run_underlying ht,MapKept.run_getObj_map hb,K.check w _ hkey,h1,hz,Result.andThen]
  ·simp [Instr.mapUpdate,run_underlying ht,MapKept.run_getObj_map hb,K.check w false hkey,h1,MapKept.run_setObj_map _ hb,Result.andThen,setBlock]
  ·have hidx:(es.push ⟨key,z,clock⟩).findIdx? (fun e=>((e.born:Nat):Int)==((clock:Nat):Int))=some es.size:=by
    rw [findIdx_arr]
    have:=findIdx_born (l:=(es.push ⟨key,z,clock⟩).toList) (j:=es.size) (e0:=⟨key,z,clock⟩) (by
     simp only [Array.toList_push,List.map_append,List.map_cons,List.map_nil]
     refine List.nodup_append.2 ⟨s2,by simp,fun a ha c hc e1=> ?_⟩
     simp only [List.mem_singleton] at hc
     obtain ⟨x,hx,rfl⟩:=List.mem_map.1 ha
     have:=s1 x hx
     omega) (by simp)
    exact this
   have hmod:(es.push ⟨key,z,clock⟩).modify es.size (fun e=>{e with val:=val})=es.push ⟨key,val,clock⟩:=by
    apply Array.ext'
    rw [Array.toList_modify,Array.toList_push,Array.toList_push,←Array.length_toList,modify_last]
   rw [store_run val hw3 hidx,setBlock_twice,hmod]
  ·simp [Instr.mapUpdate,run_underlying ht,MapKept.run_getObj_map hb,K.check w false hkey,h1,MapKept.run_setObj_map _ hb,Result.andThen,setBlock]
 ·have hj:es[j]?=some e0:=by simpa using h2
  have hsame:es.modify j (fun e=>{e with key:=key})=es:=by
   apply Array.ext'
   rw [Array.toList_modify,modify_eq_set _ _ _ _ h2]
   have:({e0 with key:=key}:MapEntry)=e0:=by rw [←h3]
   rw [this]
   exact set_self _ _ _ h2
  have hsame2:es.modify j (fun e'=>{e' with key:=key,val:=e0.val})=es:=by
   apply Array.ext'
   rw [Array.toList_modify,modify_eq_set _ _ _ _ h2]
   have:({e0 with key:=key,val:=e0.val}:MapEntry)=e0:=by rw [←h3]
   rw [this]
   exact set_self _ _ _ h2
  have hw3:(setBlock w b (.map es clock)).heap[b]?=some (.map es clock):=heap_setBlock_same hb _
  refine ⟨e0.val,e0.born,setBlock w b (.map es clock),?_,?_,?_,fun val=>⟨setBlock w b (.map (es.modify j (fun e'=>{e' with key:=key,val:=val})) clock),?_,?_⟩⟩
  ·simp [Instr.mapEntry,run_underlying ht,MapKept.run_getObj_map hb,K.check w false hkey,h1,hj,h3,K.stays w hkey,hsame,MapKept.run_setObj_map _ hb,Result.andThen,setBlock]
  ·simp [Instr.lookup,run_underlying ht,MapKept.run_getObj_map hb,K.check w _ hkey,h1,Result.andThen]
  ·simp [Instr.mapUpdate,run_underlying ht,MapKept.run_getObj_map hb,K.check w false hkey,h1,hj,h3,K.stays w hkey,hsame2,MapKept.run_setObj_map _ hb,Result.andThen,setBlock]
  ·have hidx:es.findIdx? (fun e=>((e.born:Nat):Int)==((e0.born:Nat):Int))=some j:=by
    rw [findIdx_arr]
    exact findIdx_born s2 h2
   have hmod:es.modify j (fun e=>{e with val:=val})=es.modify j (fun e'=>{e' with key:=key,val:=val}):=by
    apply Array.ext'
    rw [Array.toList_modify,Array.toList_modify,modify_eq_set _ _ _ _ h2,modify_eq_set _ _ _ _ h2,←h3]
   rw [store_run val hw3 hidx,setBlock_twice,hmod]
  ·simp [Instr.mapUpdate,run_underlying ht,MapKept.run_getObj_map hb,K.check w false hkey,h1,hj,h3,K.stays w hkey,MapKept.run_setObj_map _ hb,Result.andThen,setBlock]
end
def KMapC (w:World) (K:TypeId) (b n c:Nat) (f:Lit->Option Value):Prop:=
 ∃D:DataW Value,w.ownsMap Tryz.prog K heldR b n D/\(∀kl z,D.atKey kl (.held z)=.held ((f kl).getD z))/\(∀kl,Maps.has D kl=(f kl).isSome)/\Maps.Tidy D/\Maps.size D=c
theorem KMapC.map {w:World} {K:TypeId} {b n c:Nat} {f:Lit->Option Value} (h:KMapC w K b n c f):KMap w K b n f:=let ⟨D,h1,h2,h3,_⟩:=h;⟨D,h1,h2,h3⟩
theorem KMapC.new (w:World) (K:TypeId):KMapC (w.alloc (.map #[] 0)) K w.heap.size 0 0 (fun _=>none):=
 ⟨.map [],World.ownsMap_made _ _ _ _,fun _ _=>rfl,fun _=>rfl,Maps.tidy_empty,rfl⟩
theorem KMapC.keep {w w':World} {K:TypeId} {b n c:Nat} {f:Lit->Option Value} (h:KMapC w K b n c f) {B:Nat} (hb:Below B w w') (hB:b<B):KMapC w' K b n c f:=by
 obtain ⟨D,⟨es,clock,h1,h2⟩,h3⟩:=h
 exact ⟨D,⟨es,clock,(hb.block b hB).trans h1,h2⟩,h3⟩
theorem KMapC.len {w:World} {K t e:TypeId} {b n c:Nat} {f:Lit->Option Value} (h:KMapC w K b n c f) (ht:Tryz.prog.underlying t=some (.map K e)) (ty:TypeId):(Builtin.len_ #[t] ty #[.map (some b)]).run Tryz.prog w=.ok (.int .i64 c) w:=by
 obtain ⟨D,h1,_,_,_,h5⟩:=h
 rw [←h5]
 exact h1.len ht ty
theorem KMapC.put {w:World} {K t e:TypeId} {b n c:Nat} {f:Lit->Option Value} (h:KMapC w K b n c f) (hK:Maps.Keyed Tryz.prog K) (ht:Tryz.prog.underlying t=some (.map K e)) (hn:n<maxLen) {key val:Value} {kl:Lit} (hkey:keyOf Tryz.prog K key=some kl):
 ∃w',(Instr.mapUpdate t (.map (some b)) key val).run Tryz.prog w=.ok () w'/\KMapC w' K b (n+1) (if (f kl).isSome then c else c+1) (upd f kl val)/\w.grownBy w' (some b):=by
 obtain ⟨D,h1,h2,h3,h4,h5⟩:=h
 obtain ⟨w',hr,ho,hg⟩:=h1.update hK ht hn hkey (d:=.held val) (ps:=[]) (val:=val) rfl
 have hm:=h1.isMap
 have hik:=hK.key hkey
 refine ⟨w',hr,⟨_,ho,fun x z=> ?_,fun x=> ?_,h4.put hik _,?_⟩,hg⟩
 ·by_cases hx:x=kl
  ·subst hx;rw [Maps.atKey_put_same hm hik,upd_same];rfl
  ·rw [Maps.atKey_put_other hx,upd_other _ _ hx];exact h2 x z
 ·by_cases hx:x=kl
  ·subst hx;rw [Maps.has_put_same hm hik,upd_same];rfl
  ·rw [Maps.has_put_other hx,upd_other _ _ hx];exact h3 x
 ·rw [Maps.size_put h4,h3,h5]
theorem KMapC.bump {w:World} {K t e:TypeId} {b n c:Nat} {f:Lit->Option Value} (h:KMapC w K b n c f) (hK:Maps.Keyed Tryz.prog K) (ht:Tryz.prog.underlying t=some (.map K e)) (hn:n<maxLen) {z:Value} (hz:∀u:World,(zeroValue e).run Tryz.prog u=.ok z u) {key:Value} {kl:Lit} (hkey:keyOf Tryz.prog K key=some kl) (val:Value):
 ∃st w3 w4,(Instr.mapEntry t (.map (some b)) key).run Tryz.prog w=.ok (.tuple #[(f kl).getD z,goInt st]) w3/\(Instr.lookup t (.map (some b)) key false).run Tryz.prog w=.ok ((f kl).getD z) w/\(Instr.lookup t (.map (some b)) key false).run Tryz.prog w3=.ok ((f kl).getD z) w3/\
  (Instr.entryStore t (.map (some b)) (goInt st) val).run Tryz.prog w3=.ok () w4/\KMapC w4 K b (n+1) (if (f kl).isSome then c else c+1) (upd f kl val)/\w.grownBy w3 (some b)/\w.grownBy w4 (some b):=by
 have h0:=h
 obtain ⟨D,⟨es,clock,hb,F,hs,hD⟩,h2,h3,h4,h5⟩:=h
 obtain ⟨v0,st,w3,he,hl,hu,hst⟩:=entry_all hK ht hz hb F hkey
 have hl':=h0.map.look hK ht (hz w) hkey
 rw [hl] at hl'
 cases hl'
 obtain ⟨w4,hs4,hu4⟩:=hst val
 obtain ⟨w3',hu3,hm3,hg3⟩:=h0.put hK ht hn hkey (val:=(f kl).getD z)
 rw [hu] at hu3
 cases hu3
 obtain ⟨w4',hu4',hm4,hg4⟩:=h0.put hK ht hn hkey (val:=val)
 rw [hu4] at hu4'
 cases hu4'
 have hl3:=hm3.map.look hK ht (hz w3) hkey
 rw [upd_same] at hl3
 exact ⟨st,w3,w4,he,hl,hl3,hs4,hm4,hg3,hg4⟩
structure MK (ms:List ByteArray) (f:Lit->Option Value) (c:Nat):Prop where
 has:∀l,(f l).isSome=true↔l∈ms.map keyL
 num:∀l v,f l=some v->∃n:Int,v=.int .i64 n/\1<=n/\n<=ms.length
 le:c<=ms.length
 all:c=ms.length↔(ms.map keyL).Nodup
theorem MK.nil:MK [] (fun _=>none) 0:=⟨fun l=>(by simp),fun l v h=>(by simp at h),Nat.le_refl _,(by simp)⟩
theorem MK.get {ms:List ByteArray} {f:Lit->Option Value} {c:Nat} (h:MK ms f c) (l:Lit):∃n:Int,(f l).getD (.int .i64 0)=.int .i64 n/\0<=n/\n<=ms.length/\(0<n↔l∈ms.map keyL):=by
 cases hf:f l with
 |none=>
  refine ⟨0,rfl,Int.le_refl _,by omega,?_⟩
  have:=h.has l
  rw [hf] at this
  simp at this ⊢
  exact this
 |some v=>
  obtain ⟨n,rfl,h1,h2⟩:=h.num l v hf
  have:=h.has l
  rw [hf] at this
  exact ⟨n,rfl,by omega,h2,⟨fun _=>this.1 rfl,fun _=>by omega⟩⟩
theorem MK.snoc {ms:List ByteArray} {f:Lit->Option Value} {c:Nat} (h:MK ms f c) (x:ByteArray) {n:Int} (h0:0<=n) (h1:n<=ms.length):
 MK (ms++[x]) (upd f (keyL x) (.int .i64 (n+1))) (if (f (keyL x)).isSome then c else c+1):=by
 have hx:=h.has (keyL x)
 refine ⟨fun l=> ?_,fun l v hv=> ?_,?_,?_⟩
 ·by_cases e:l=keyL x
  ·subst e;rw [upd_same];simp
  ·rw [upd_other _ _ e,h.has l]
   simp only [List.map_append,List.map_cons,List.map_nil,List.mem_append,List.mem_singleton]
   exact ⟨fun h=> .inl h,fun h=>h.resolve_right e⟩
 ·by_cases e:l=keyL x
  ·subst e
   rw [upd_same] at hv
   cases hv
   exact ⟨n+1,rfl,by omega,by simp;omega⟩
  ·rw [upd_other _ _ e] at hv
   obtain ⟨m,e1,e2,e3⟩:=h.num l v hv
   exact ⟨m,e1,e2,by simp;omega⟩
 ·have:=h.le
  split<;>simp<;>omega
 ·have hle:=h.le
  have hal:=h.all
  rw [List.map_append,List.map_cons,List.map_nil,List.length_append]
  by_cases hm:keyL x∈ms.map keyL
  ·rw [if_pos (hx.2 hm)]
   constructor
   ·intro e;simp at e;omega
   ·intro e
    have:=(List.nodup_append.1 e).2.2 _ hm _ (by simp) rfl
    cases this
  ·rw [if_neg (fun e=>hm (hx.1 e))]
   constructor
   ·intro e
    refine List.nodup_append.2 ⟨hal.1 (by simp at e;omega),by simp,fun a ha b hb e=> ?_⟩
    simp at hb
    subst hb
    subst e
    exact hm ha
   ·intro e
    have:=hal.2 (List.nodup_append.1 e).1
    simp;omega
theorem cnt_wrap {a:Int} (h0:0<=a) (h1:a<=2000000000):IntKind.i64.wrap a=a:=by
 unfold IntKind.wrap
 simp [IntKind.signed,IntKind.bits]
 omega
theorem zeroInt (w:World):(zeroValue 3).run Tryz.prog w=.ok (.int .i64 0) w:=by kernel_rfl
end Go.Proofs.YtpekbmegopfhfaaGreatDoor
namespace Go.Proofs.YtpekbmegopfhfaaGreatDoor
open Go.ChangeShapes Go.WideShapes Go.ChangeAt Go.RowKit
structure Cls (W:World) where
 w:World
 h:Below W.heap.size W w
theorem Cls.ne (W:World):Nonempty (Cls W):=⟨⟨W,Below.refl _ _⟩⟩
theorem Cls.cell {W:World} {b o:Nat} {v:Value} (hv:W.cell? ⟨b,o,none⟩=some v) (hb:b<W.heap.size) (n:Cls W):n.w.cell? ⟨b,o,none⟩=some v:=(n.h.cell (p:=⟨b,o,none⟩) hb).trans hv
def Cls.next {W:World} (n:Cls W) {w':World} (h:Below n.w.heap.size n.w w'):Cls W:=⟨w',n.h.trans (h.mono n.h.size)⟩
theorem region_cls {P:Program} {ops:Array Oper} {id:Nat} {Q:Exit->Act->World->Prop} {a:Act} {w:World} (hm:P.follows .mixedOrders=true) (hB:Region.lexB .any ops=true)
 (h:wpQuiet P ops (fun w'=>∃n:Cls w,w'=n.w) (fun a'=>∀n:Cls w,Q .normal a' n.w) ops.toList a):(Code.region id ops true).wp P Q a w:=by
 refine wp_region_quiet (C:=fun w'=>∃n:Cls w,w'=n.w) hm hB ⟨⟨_,(Below.refl _ _).drew⟩,rfl⟩ ?_
 have e:(fun a'=>∀w',(∃n:Cls w,w'=n.w)->Q .normal a' w')=(fun a'=>∀n:Cls w,Q .normal a' n.w):=by
  funext a'
  exact propext ⟨fun h n=>h _ ⟨n,rfl⟩,fun h _ ⟨n,e⟩=>e▸h n⟩
 rw [e]
 exact h
theorem region_cls_lit {P:Program} {l:List Oper} {id:Nat} {Q:Exit->Act->World->Prop} {a:Act} {w:World} (hm:P.follows .mixedOrders=true) (hB:Region.lexB .any l.toArray=true)
 (h:wpQuiet P l.toArray (fun w'=>∃n:Cls w,w'=n.w) (fun a'=>∀n:Cls w,Q .normal a' n.w) l a):(Code.region id l.toArray true).wp P Q a w:=
 region_cls hm hB (by simpa using h)
theorem Cls.calls {P:Program} {f:FuncId} {args:Array Value} {W:World} {v:Value} {n:Cls W} (h:Calls P f args n.w fun e w'=>e=.returned v/\Below n.w.heap.size n.w w'):
 Calls P f args n.w fun e w''=>e=.returned v/\∃m:Cls W,w''=m.w:=
 h.mono fun _ _ ⟨he,hb⟩=>⟨he,n.next hb,rfl⟩
end Go.Proofs.YtpekbmegopfhfaaGreatDoor
namespace Go.Proofs.YtpekbmegopfhfaaGreatDoor
open Go.ChangeShapes Go.WideShapes Go.ChangeAt Go.RowKit
theorem formTxt_size (t:ByteArray) (ss:List ByteArray) (wd:Int):(formTxt t ss wd).size<=maxLen:=by
 unfold formTxt
 split
 ·rename_i h
  have h:=okThing_parts h
  have h1:=h.bulk_le
  have h2:=h.text
  have:(ByteArray.mk (formB t ss).toArray).size=1+(bulk ss+t.size):=by
   show (formB t ss).toArray.size=_
   simp only [List.size_toArray,formB,List.length_cons,List.length_append,flat_length,Array.length_toList]
   show _+t.size+1=_
   omega
  rw [this]
  unfold maxLen
  omega
 ·simp [maxLen]
def HasAt (w:World) (wd:Int) (m:Nat) (ks:List Kd) (s:ByteArray):Prop:=
 ∃ok,(ok=true↔There ks s)/\∀w',Below w.heap.size w w'->Calls Tryz.prog 223 #[.agg #[.int .i64 wd,.map (some m)],.string s] w' fun e w''=>e=.returned (.bool ok)/\Below w'.heap.size w' w''
def Says (P:Prop) (w0 w:World) (e:Ending):Prop:=∃b,e=.returned (.bool b)/\(b=true↔P)/\Below w0.heap.size w0 w
theorem Says.yes {P:Prop} {w0 w:World} (h:P) (hb:Below w0.heap.size w0 w):Says P w0 w (.returned (.bool true)):=⟨_,rfl,by simpa using h,hb⟩
theorem Says.no {P:Prop} {w0 w:World} (h:¬P) (hb:Below w0.heap.size w0 w):Says P w0 w (.returned (.bool false)):=⟨_,rfl,by simpa using h,hb⟩
def FindAt (w:World) (wd:Int) (m:Nat) (ks:List Kd) (s:ByteArray):Prop:=
 ∃u bo t sa sb sc ok,Found ks s bo ok/\∀w',Below w.heap.size w w'->Calls Tryz.prog 123 #[.agg #[.int .i64 wd,.map (some m)],.string s] w' fun e w''=>e=.returned (.tuple #[.agg #[.string u,.int .i64 bo,.string t,.slice sa sb sc],.bool ok])/\Below w'.heap.size w' w''
theorem iwidth_any (n:Int) (w:World):
 Calls Tryz.prog 44 #[.int .i64 n] w fun e w'=>e=.returned (.bool (decide (1<=n/\n<=8)))/\w'=w:=by
 by_cases h1:1<=n
 ·by_cases h2:n<=8
  ·go_enter Tryz.func44,Tryz.ntmps44
   go_wp2
   go_ret
   exact ⟨ret_b (by simp [h1,h2]),rfl⟩
  ·have h2':decide (n<=8)=false:=by simpa using h2
   go_enter Tryz.func44,Tryz.ntmps44
   go_wp2
   go_ret
   exact ⟨rfl,rfl⟩
 ·have h1':decide (1<=n)=false:=by simpa using h1
  go_enter Tryz.func44,Tryz.ntmps44
  go_wp2
  go_ret
  exact ⟨rfl,rfl⟩
theorem sumOf_size (k:Kd) (wd:Int) (h:1<=wd):((sumOf k wd).size:Int)=wd:=by
 have e:∀l:List Int,(strOfNums l).size=l.length:=fun l=>by unfold strOfNums;simp [ByteArray.size]
 unfold sumOf sumText
 rw [e,sumNums_length]
 omega
theorem swidth_any (n:Int) (w:World):
 Calls Tryz.prog 40 #[.int .i64 n] w fun e w'=>e=.returned (.bool (decide (1<=n/\n<=8)))/\w'=w:=by
 by_cases h1:1<=n
 ·by_cases h2:n<=8
  ·go_enter Tryz.func40,Tryz.ntmps40
   go_wp2
   go_ret
   exact ⟨ret_b (by simp [h1,h2]),rfl⟩
  ·have h2':decide (n<=8)=false:=by simpa using h2
   go_enter Tryz.func40,Tryz.ntmps40
   go_wp2
   go_ret
   exact ⟨rfl,rfl⟩
 ·have h1':decide (1<=n)=false:=by simpa using h1
  go_enter Tryz.func40,Tryz.ntmps40
  go_wp2
  go_ret
  exact ⟨rfl,rfl⟩
end Go.Proofs.YtpekbmegopfhfaaGreatDoor
namespace Go.Proofs.YtpekbmegopfhfaaGreatDoor
open Go.ChangeShapes Go.WideShapes Go.ChangeAt Go.RowKit
theorem key_out (s:ByteArray) (w:World):
 Calls Tryz.prog 135 #[.string s] w fun e w'=>e=.returned (.agg #[.int .u8 (kB s 0),.int .u8 (kB s 1),.int .u8 (kB s 2),.int .u8 (kB s 3),.int .u8 (kB s 4),.int .u8 (kB s 5),.int .u8 (kB s 6),.int .u8 (kB s 7)])/\Below w.heap.size w w':=key_any s w
def oneK (s:ByteArray):Obj:=.cells #[.int .u8 (kB s 0),.int .u8 (kB s 1),.int .u8 (kB s 2),.int .u8 (kB s 3),.int .u8 (kB s 4),.int .u8 (kB s 5),.int .u8 (kB s 6),.int .u8 (kB s 7)] 139
theorem R8.one (w:World) (s:ByteArray):R8 (w.alloc (oneK s)) (w.heap.size+1) (.slice (some ⟨w.heap.size,0,none⟩) 1 1) [s]:=by
 refine .inr ⟨w.heap.size,0,1,rfl,by omega,fun i t ht j hj=> ?_⟩
 cases i with
 |zero=>
  simp at ht
  subst ht
  rw [Nat.zero_mul,Nat.zero_add,Nat.zero_add]
  unfold oneK
  rw [World.cell?_alloc_at _ _ _ _ rfl]
  match j,hj with
  |0,_|1,_|2,_|3,_|4,_|5,_|6,_|7,_=>rfl
 |succ i=>simp at ht
end Go.Proofs.YtpekbmegopfhfaaGreatDoor
namespace Go.Proofs.YtpekbmegopfhfaaGreatDoor
open Go.ChangeShapes Go.WideShapes Go.ChangeAt Go.RowKit
theorem sne {a b:Nat} (h:b<a):some a≠some b:=fun e=>by have:=Option.some.inj e;omega
theorem rd_grown (w:World) (g p:Nat) (v:Value):w.grownBy (w.setCell ⟨g,p,none⟩ v) (some g):=
 ⟨rfl,rfl,rfl,by simp,fun i _ hi=>Below.heap_setCell _ _ _ _ (fun e=>hi (by rw [e]))⟩
def CellsAt (w:World) (B:Nat) (l:List Value):Prop:=∀j v,l[j]?=some v->w.cell? ⟨B,j,none⟩=some v/\w.frozen? ⟨B,j,none⟩=false
theorem CellsAt.lt {w:World} {B:Nat} {v:Value} {l:List Value} (h:CellsAt w B (v::l)):B<w.heap.size:=World.block_lt_of_cell? w _ (h 0 v rfl).1
theorem CellsAt.far {w w':World} {B b:Nat} {v:Value} {l:List Value} (h:CellsAt w B (v::l)) (hg:w.grownBy w' (some b)) (hb:b<B):CellsAt w' B (v::l):=by
 intro j x hx
 have hl:=h.lt
 exact ⟨(hg.cell_far ⟨B,j,none⟩ hl (sne hb)).trans (h j x hx).1,(hg.frozen_far ⟨B,j,none⟩ hl (sne hb)).trans (h j x hx).2⟩
theorem CellsAt.below {w w':World} {B:Nat} {v:Value} {l:List Value} (h:CellsAt w B (v::l)) (hb:Below w.heap.size w w'):CellsAt w' B (v::l):=by
 intro j x hx
 have hl:=h.lt
 exact ⟨(hb.cell (p:=⟨B,j,none⟩) hl).trans (h j x hx).1,(hb.frozen (p:=⟨B,j,none⟩) hl).trans (h j x hx).2⟩
theorem CellsAt.new (w:World) (l:List Value) (T:TypeId):CellsAt (w.alloc (.cells l.toArray T)) w.heap.size l:=by
 intro j v hv
 refine ⟨?_,by simp⟩
 rw [World.cell?_alloc_at _ _ _ _ rfl]
 simpa using hv
theorem CellsAt.far' {w w':World} {B c:Nat} {v:Value} {l:List Value} (h:CellsAt w B (v::l)) (hg:w.grownBy w' (some c)) (hc:c≠B):CellsAt w' B (v::l):=by
 intro j x hx
 have hl:=h.lt
 have hn:some B≠some c:=fun e=>hc (Option.some.inj e).symm
 exact ⟨(hg.cell_far ⟨B,j,none⟩ hl hn).trans (h j x hx).1,(hg.frozen_far ⟨B,j,none⟩ hl hn).trans (h j x hx).2⟩
theorem CellsAt.set {w:World} {B:Nat} {l:List Value} (h:CellsAt w B l) (j:Nat) (v:Value):CellsAt (w.setCell ⟨B,j,none⟩ v) B (l.set j v):=by
 intro i x hx
 by_cases hij:i=j
 ·subst hij
  have hlt:i<l.length:=by
   rcases Nat.lt_or_ge i l.length with h'|h'
   ·exact h'
   ·rw [List.getElem?_eq_none (by simpa using h')] at hx;cases hx
  rw [List.getElem?_set_self hlt] at hx
  injection hx with hx
  subst hx
  obtain ⟨h1,h2⟩:=h i _ (List.getElem?_eq_getElem hlt)
  exact ⟨by simp [go_sem,h1],by simpa [go_sem] using h2⟩
 ·rw [List.getElem?_set_ne (fun e=>hij e.symm)] at hx
  obtain ⟨h1,h2⟩:=h i x hx
  refine ⟨?_,by simpa [go_sem] using h2⟩
  rw [World.cell?_setCell_other _ _ _ _ (by intro e;injection e;omega)]
  exact h1
end Go.Proofs.YtpekbmegopfhfaaGreatDoor
namespace Go.Proofs.YtpekbmegopfhfaaGreatDoor
open Go.ChangeShapes Go.WideShapes Go.ChangeAt Go.RowKit
section
open Go.WideElems Go.MapKept Go.ChangeMaps
end
def linkL (E:List (ByteArray×ByteArray)) (t:ByteArray):List ByteArray:=E.filterMap (fun p=>if p.1=t then some p.2 else none)
noncomputable def rowV (f:Lit->Option Value) (t:ByteArray):Value:=(f (keyL t)).getD (.slice none 0 0)
structure Lk (w:World) (base b n:Nat) (wd:Int) (E:List (ByteArray×ByteArray)) (av:List Nat) (f:Lit->Option Value):Prop where
 map:KMap w 139 b n f
 row:∀t:ByteArray,(t.size:Int)=wd->QRow w base (rowV f t) (linkL E t)
 apart:∀s t:ByteArray,(s.size:Int)=wd->(t.size:Int)=wd->s≠t->∀g,sBlk (rowV f s)=some g->sBlk (rowV f t)≠some g
 far:∀t:ByteArray,(t.size:Int)=wd->∀g,sBlk (rowV f t)=some g->g∉av
end Go.Proofs.YtpekbmegopfhfaaGreatDoor
