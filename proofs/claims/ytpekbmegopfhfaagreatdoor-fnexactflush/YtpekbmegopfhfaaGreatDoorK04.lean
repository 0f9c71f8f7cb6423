import Derived.Test.YtpekbmegopfhfaaGreatDoorK03
import Derived.Deep.DrawnRows
import Derived.Deep.RegionHeld3
import Derived.WideKeyEntry
import Derived.Maps.Views
import Derived.Deep.RegionLaw
set_option maxRecDepth 100000
set_option maxHeartbeats 16000000
namespace Go.Proofs.YtpekbmegopfhfaaGreatDoor
open Go.ChangeShapes Go.WideShapes Go.ChangeAt Go.RowKit _root_.Go.Proofs.Tryz
section
attribute [local go_sem↓] Go.wp_at_zero Go.wp_at_succ
def DK (u:Kd) (ra:Option Addr) (rc:Nat):Value:=.agg #[.string u.sum,XJ u.born,.string u.text,.slice ra u.refs.length rc]
def CI (W:World) (B:Nat) (wd:Int) (ks:List Kd) (f:Lit->Option Value):Prop:=
 ∀s:ByteArray,(s.size:Int)=wd->(f (keyL s)=none/\¬Au ks s)∨∃u ra rc,u∈ks/\u.sum=s/\f (keyL s)=some (DK u ra rc)/\Ae W B ra u.refs
theorem CI.nil (W:World) (B:Nat) (wd:Int):CI W B wd [] (fun _=>none):=fun _ _=> .inl ⟨rfl,fun⟨_,h,_⟩=>by cases h⟩
theorem CI.snoc {W:World} {B:Nat} {wd:Int} {ks:List Kd} {f:Lit->Option Value} (h:CI W B wd ks f) {x:Kd} {ra:Option Addr} {rc:Nat} (hx:(x.sum.size:Int)=wd) (h8:wd<=8) (hr:Ae W B ra x.refs):CI W B wd (ks++[x]) (upd f (keyL x.sum) (DK x ra rc)):=by
 intro s hs;by_cases he:keyL s=keyL x.sum
 ·have:s=x.sum:=IF he (by omega) (by omega)
  subst this;exact .inr ⟨x,ra,rc,by simp,rfl,Ds _ _ _,hr⟩
 ·rw[Dl _ _ he]
  have zB:x.sum≠s:=fun e=>he (by rw[e]);rcases h s hs with⟨h1,h2⟩|⟨u,zC,zA,h1,h2,h3,h4⟩
  ·refine .inl ⟨h1,fun⟨u,hu,e⟩=> ?_⟩
   rcases List.mem_append.1 hu with hu|hu
   ·exact h2 ⟨u,hu,e⟩
   ·simp at hu;subst hu;exact zB e
  ·exact .inr ⟨u,zC,zA,by simp[h1],h2,h3,h4⟩
theorem Ji (w:World):(zeroValue 114).run prog w=.ok (.agg #[XM,XK,XM,XN]) w:=by kernel_rfl
theorem Bb.setCell {w:World} {K:TypeId} {b n:Nat} {f:Lit->Option Value} (h:Bb w K b n f) {a:Addr} (ha:b≠a.block) (u:Value):Bb (w.setCell a u) K b n f:=by
 obtain⟨D,h1,h2⟩:=h;exact⟨D,h1.setCell ha u,h2⟩
def FS (wr:World) (h:Nat) (m s b t r:Value) (w':World):Prop:=
 w'.cell? (XL (h+1+1+1) 1)=some m/\w'.cell? (XL (wr.heap.size) 0)=some s/\w'.cell? (XL (wr.heap.size) 1)=some b/\w'.cell? (XL (wr.heap.size) 2)=some t/\w'.cell? (XL (wr.heap.size) 3)=some r
theorem FS.keep {wr w' zA:World} {h:Nat} {m s b t r:Value} (x:FS wr h m s b t r w') (hb:Xz w' zA) (h1:h+3<w'.heap.size) (h2:wr.heap.size<w'.heap.size):FS wr h m s b t r zA:=by
 obtain⟨a0,a1,a2,a3,a4⟩:=x;exact⟨(hb.cell (p:=⟨h+1+1+1,1,none⟩) h1).trans a0,(hb.cell (p:=⟨wr.heap.size,0,none⟩) h2).trans a1,(hb.cell (p:=⟨wr.heap.size,1,none⟩) h2).trans a2,(hb.cell (p:=⟨wr.heap.size,2,none⟩) h2).trans a3,(hb.cell (p:=⟨wr.heap.size,3,none⟩) h2).trans a4⟩
theorem FS.grown {wr w' zA:World} {h q:Nat} {m s b t r:Value} (x:FS wr h m s b t r w') (hg:w'.grownBy zA (some q)) (h1:h+1+1+1≠q) (h2:wr.heap.size≠q):FS wr h m s b t r zA:=by
 obtain⟨a0,a1,a2,a3,a4⟩:=x;exact⟨hg.cell a0 (by simpa using h1),hg.cell a1 (by simpa using h2),hg.cell a2 (by simpa using h2),hg.cell a3 (by simpa using h2),hg.cell a4 (by simpa using h2)⟩
theorem IT (wd now given births:Int) (a:Option Addr) (ac:Nat) (P L:Value) (ks:List Kd) (w:World) (zH:Bx w w.heap.size a ks) (hl:ks.length<=1048576) (zO:∀k∈ks,(k.sum.size:Int)=wd) (h8:wd<=8):
 Calls prog 134 #[.agg #[XJ wd,XJ now,XJ given,XJ births,.slice a ks.length ac,P,L]] w fun e w'=>∃m f,e=.returned (.agg #[XJ wd,.map (some m)])/\(w.heap.size<=m/\m<=w.heap.size+2)/\Bb w' 139 m ks.length f/\CI w w.heap.size wd ks f/\Xz w w':=by
 have zX:= @run_makeMap prog;go_enter func134,ntmps134;go_wp2
 obtain⟨W0,zC⟩:∃W,W=((((w.alloc (Obj.cells #[Value.int IntKind.i64 wd,Value.int IntKind.i64 now,Value.int IntKind.i64 given,Value.int IntKind.i64 births,Value.slice a ks.length ac,P,L] 28)).alloc (Obj.cells #[Value.int IntKind.i64 0,Value.map none] 128)).alloc (Obj.map #[] 0)).alloc (Obj.cells #[Value.int IntKind.i64 wd,Value.map (some (w.heap.size+1+1))] 128)):=⟨_,rfl⟩
 have zU:Below w.heap.size w W0:=by
  rw[zC];exact((((XA).alloc (by simp) _).alloc (by simp;omega) _).alloc (by simp;omega) _)
 have yB:W0.heap.size=w.heap.size+4:=by rw[zC];simp
 have zZ:Bb W0 139 (w.heap.size+1+1) 0 (fun _=>none):=by
  have:=Bb.new ((w.alloc (Obj.cells #[Value.int IntKind.i64 wd,Value.int IntKind.i64 now,Value.int IntKind.i64 given,Value.int IntKind.i64 births,Value.slice a ks.length ac,P,L] 28)).alloc (Obj.cells #[Value.int IntKind.i64 0,Value.map none] 128)) 139;rw[zC];have h2:=this.keep ((Below.refl _ _).alloc (XB) (Obj.cells #[Value.int IntKind.i64 wd,Value.map (some (w.heap.size+1+1))] 128)) this.lt
  simpa using h2
 have s0:W0.cell? (XL (w.heap.size+1+1+1) 0)=some (XJ wd):=by rw[zC];simp[go_sem]
 have s1:W0.cell? (XL (w.heap.size+1+1+1) 1)=some (.map (some (w.heap.size+1+1))):=by rw[zC];simp[go_sem]
 have r0:W0.cell? (XL (w.heap.size+1) 0)=some XK:=by rw[zC];simp[go_sem]
 have r1:W0.cell? (XL (w.heap.size+1) 1)=some (.map none):=by rw[zC];simp[go_sem]
 have rf:∀j,W0.frozen? ⟨w.heap.size+1,j,none⟩=false:=fun j=>by rw[zC];simp[go_sem]
 rw[←zC];clear zC zX
 go_loopw [13] (fun i wr=>∃(k:Nat) (f:Lit->Option Value),k<=ks.length/\i=XJ k/\Hid (Bb wr 139 (w.heap.size+1+1) k f)/\Hid (CI w w.heap.size wd (ks.take k) f)/\W0.grownBy wr (some (w.heap.size+1+1))) (fun i _=>ks.length -(intOf i).toNat)
 case atStart=>exact⟨0,_,Nat.zero_le _,rfl,zZ,by rw[List.take_zero];exact CI.nil w w.heap.size wd,Eb _ _⟩
 case round=>
  obtain⟨k,f,hk,rfl,HM,HF,zE⟩:=hrel;have zF:=zU.grown zE (by omega) (by intro j hj;cases hj;omega);have t0:=zE.cell s0 (by simp);have t1:=zE.cell s1 (by simp);have yA:=zE.size;by_cases hlt:k<ks.length
  ·obtain⟨b,off,ha,hb,hc⟩:=(zH.below zF).at hlt
   subst ha;have HG:Hid _:=XD hlt;obtain⟨c0,c1,c2,ra,rc,c3,_⟩:=hc k _ HG.o;obtain⟨b',zS,zW,_,zM⟩:=zH.at hlt;cases zW;obtain⟨_,_,_,zB,zA,zP,zK⟩:=zM k _ HG.o;have zV:zB=ra/\zA=rc:=by
    have:=(zF.cell (p:=⟨b,off+k *4+3,none⟩) hb).trans zP;rw[c3] at this;simp at this;exact⟨this.1.symm,this.2.symm⟩
   obtain⟨rfl,rfl⟩:=zV;have zY:=zO _ (List.getElem_mem hlt);have yC:b<wr.heap.size:=by omega
   have HR:Hid _:=zK;clear hc zM zK zP zO zH;generalize ks[k]=x at *
   go_wp2;have zJ:Below wr.heap.size wr (wr.alloc (Obj.cells #[Value.string x.sum,Value.int IntKind.i64 x.born,Value.string x.text,Value.slice zB x.refs.length zA] 114)):=XA
   have hT:FS wr w.heap.size (.map (some (w.heap.size+1+1))) (.string x.sum) (XJ x.born) (.string x.text) (.slice zB x.refs.length zA) (wr.alloc (Obj.cells #[Value.string x.sum,Value.int IntKind.i64 x.born,Value.string x.text,Value.slice zB x.refs.length zA] 114)):=⟨(zJ.cell (p:=⟨w.heap.size+1+1+1,1,none⟩) (by simp;omega)).trans t1,by simp,by simp,by simp,by simp⟩
   have zN:FS wr w.heap.size (.map (some (w.heap.size+1+1))) (.string x.sum) (XJ x.born) (.string x.text) (.slice zB x.refs.length zA) (wr.alloc (Obj.cells #[Value.string x.sum,Value.int IntKind.i64 x.born,Value.string x.text,Value.slice zB x.refs.length zA] 114)).drew:=hT
   go_region_held3 (fun w'=>w'.cell? (XL (w.heap.size+1+1+1) 1)=some (.map (some (w.heap.size+1+1)))/\w'.cell? (XL (wr.heap.size) 0)=some (.string x.sum)/\w'.cell? (XL (wr.heap.size) 1)=some (XJ x.born)/\w'.cell? (XL (wr.heap.size) 2)=some (.string x.text)/\w'.cell? (XL (wr.heap.size) 3)=some (.slice zB x.refs.length zA))
    (first|exact T3|exact T2|exact zN)
    (first
    |(go_at_call 135;refine(GS x.sum _).mono ?_;rintro e w2 ⟨rfl,zI⟩;have T2:FS wr w.heap.size (.map (some (w.heap.size+1+1))) (.string x.sum) (XJ x.born) (.string x.text) (.slice zB x.refs.length zA) w2:=FS.keep zN zI (by simp;omega) (by simp);have zG:Below wr.heap.size wr w2:=zJ.drew.trans (zI.mono (by simp));obtain⟨w3,hup,hm3,hg3⟩:=(HM.o.keep zG (by omega)).put keyed underlying126 (val:=DK x zB zA) (by unfold maxLen;omega) (Ee x.sum);have T3:FS wr w.heap.size (.map (some (w.heap.size+1+1))) (.string x.sum) (XJ x.born) (.string x.text) (.slice zB x.refs.length zA) w3:=FS.grown T2 hg3 (by simp) (by simp;omega);unfold DK at hup))
   all_goals
    have zR:=Ap zE (Ap (Ax _ zG) hg3);have HN:Hid (CI w w.heap.size wd (ks.take (k+1)) (upd f (keyL x.sum) (DK x zB zA))):=by
     have:=HF.o.snoc (rc:=zA) zY h8 HR.o;rw[List.take_add_one,HG.o];exact this
    have zT:Hid _:=hm3;clear hm3 hup T2 T3 hg3 zG zI;go_wp2;exact⟨⟨k+1,_,by omega,by go_num,zT,HN,zR⟩,by simp[intOf];omega⟩
  ·have p0:=zE.cell r0 (by simp)
   have p1:=zE.cell r1 (by simp);have pf:∀j,wr.frozen? ⟨w.heap.size+1,j,none⟩=false:=fun j=>(zE.frozen_far ⟨w.heap.size+1,j,none⟩ (by simp;omega) (by simp)).trans (rf j);rw[XF (by omega)] at HF;obtain rfl:k=ks.length:=by omega
   go_wp2;refine bodyPost_ret (v:=.agg #[XJ wd,.map (some (w.heap.size+1+1))]) (by simp[results,results134,go_sem,p0,p1]) rfl ⟨_,f,rfl,by omega,?_,HF.o,?_⟩
   ·exact(Bb.setCell (Bb.setCell HM.o (by simp) _) (by simp) _)
   ·exact(zF.setCell (by simp) _).setCell (by simp) _
def FD (b m:Nat) (s:ByteArray) (v:Value) (w':World):Prop:=
 w'.cell? (XL b 1)=some (.map (some m))/\(Instr.lookup 126 (.map (some m)) (Cc s) true).run prog w'=.ok v w'
theorem FD.of {W w':World} {b m n B:Nat} {s:ByteArray} {f:Lit->Option Value} (hc:W.cell? (XL b 1)=some (.map (some m))) (hM:Bb W 139 m n f) (hb:b<B) (hm:m<B) (h:Below B W w'):
 FD b m s (.tuple #[(f (keyL s)).getD (.agg #[XM,XK,XM,XN]),.bool (f (keyL s)).isSome]) w':=
 ⟨(h.cell (p:=⟨b,1,none⟩) hb).trans hc,(hM.keep h hm).look_ok keyed underlying126 (Ji _) (Ee s)⟩
theorem Gv (wd:Int) (m n:Nat) (f:Lit->Option Value) (s:ByteArray) (w:World) (hM:Bb w 139 m n f) (hs:(s.size:Int)=wd) (u:ByteArray) (bo:Int) (t:ByteArray) (sl:Value) (ok:Bool)
 (zK:(∃a l c,sl=.slice a l c)) (hf:(f (keyL s)).getD (.agg #[XM,XK,XM,XN])=.agg #[.string u,XJ bo,.string t,sl]) (zG:(f (keyL s)).isSome=ok):
 Calls prog 123 #[.agg #[XJ wd,.map (some m)],.string s] w fun e w'=>e=.returned (.tuple #[.agg #[.string u,XJ bo,.string t,sl],.bool ok])/\Xz w w':=by
 obtain⟨sa,sb,sc,rfl⟩:=zK;have zH:=hM.lt;have zN:∀o1 o2,Xz w ((w.alloc o1).alloc o2):=fun o1 o2=>(XA).alloc (by simp) _;go_enter func123,ntmps123;go_wp2;obtain⟨W,hW⟩:∃W,W=(w.alloc (Obj.cells #[Value.int IntKind.i64 wd,Value.map (some m)] 128)).alloc (Obj.cells #[Value.string ⟨#[]⟩,Value.int IntKind.i64 0,Value.string ⟨#[]⟩,Value.slice none 0 0] 114):=⟨_,rfl⟩
 have hz:W.heap.size=w.heap.size+1+1:=by rw[hW];simp
 have zF:Below w.heap.size w W:=by rw[hW];exact zN _ _
 have c1:W.cell? (XL (w.heap.size) 1)=some (.map (some m)):=by rw[hW];simp[go_sem]
 have r0:∃v,W.cell? (XL (w.heap.size+1) 0)=some v:=by rw[hW];simp[go_sem]
 have r1:∃v,W.cell? (XL (w.heap.size+1) 1)=some v:=by rw[hW];simp[go_sem]
 have r2:∃v,W.cell? (XL (w.heap.size+1) 2)=some v:=by rw[hW];simp[go_sem]
 have r3:∃v,W.cell? (XL (w.heap.size+1) 3)=some v:=by rw[hW];simp[go_sem]
 have rf:∀j,W.frozen? ⟨w.heap.size+1,j,none⟩=false:=fun j=>by rw[hW];simp[go_sem]
 obtain⟨v0,r0⟩:=r0;obtain⟨v1,r1⟩:=r1;obtain⟨v2,r2⟩:=r2;obtain⟨v3,r3⟩:=r3;have hD:∀w',Xz W w'->FD w.heap.size m s (.tuple #[.agg #[.string u,XJ bo,.string t,.slice sa sb sc],.bool ok]) w':=fun w' h=>by
  have:=FD.of (s:=s) c1 (hM.keep zF zH) (by omega) (by omega) h;rw[hf,zG] at this;exact this
 have HD:Hid _:=hD;have hN:w.heap.size+1<W.heap.size:=by omega
 have zP:w.heap.size<W.heap.size:=by omega
 rw[←hW];clear hW hD hf zG hM hz;go_region_held3 (fun w'=>w'.cell? (XL (w.heap.size) 1)=some (.map (some m))/\(Instr.lookup 126 (.map (some m)) (Cc s) true).run prog w'=.ok (.tuple #[.agg #[.string u,XJ bo,.string t,.slice sa sb sc],.bool ok]) w')
  (first
    |exact HD.o _ zA
    |exact HD.o _ (zA.alloc (XI (XB) zA.size) _)
    |exact HD.o _ ((Below.refl _ _).drew.alloc (by simp) _)
    |exact HD.o _ (Below.refl _ _).drew
    |exact HD.o _ ((((zA.setCell (by simp) _).setCell (by simp) _).setCell (by simp) _).setCell (by simp) _)
    |exact HD.o _ (zA.alloc zA.size _))
  (first
    |(go_at_call 135;refine(GS s W.drew).mono ?_;rintro e w2 ⟨rfl,zB⟩;have zA:Below W.heap.size W w2:=(Below.refl _ _).drew.trans (zB.mono (by simp));have zM:=zA.size)
    |(go_at_call 135;refine(GS s (W.alloc _).drew).mono ?_;rintro e w2 ⟨rfl,zB⟩;have zA:Below W.heap.size W w2:=(XA).drew.trans (zB.mono (by simp));have zM:W.heap.size<w2.heap.size:=(by have:=zB.size;simp at this;omega);have n0:w2.cell? (XL (W.heap.size) 0)=some XM:=(by rw[zB.cell (p:=⟨W.heap.size,0,none⟩) (by simp)];simp[go_sem]);have n1:w2.cell? (XL (W.heap.size) 1)=some XK:=(by rw[zB.cell (p:=⟨W.heap.size,1,none⟩) (by simp)];simp[go_sem]);have n2:w2.cell? (XL (W.heap.size) 2)=some XM:=(by rw[zB.cell (p:=⟨W.heap.size,2,none⟩) (by simp)];simp[go_sem]);have n3:w2.cell? (XL (W.heap.size) 3)=some XN:=(by rw[zB.cell (p:=⟨W.heap.size,3,none⟩) (by simp)];simp[go_sem]);have nf:∀j,w2.frozen? ⟨W.heap.size,j,none⟩=false:=(fun j=>by rw[zB.frozen (p:=⟨W.heap.size,j,none⟩) (by simp)];simp[go_sem])))
 all_goals
  have p0:=(zA.cell (p:=⟨w.heap.size+1,0,none⟩) hN).trans r0;have p1:=(zA.cell (p:=⟨w.heap.size+1,1,none⟩) hN).trans r1;have p2:=(zA.cell (p:=⟨w.heap.size+1,2,none⟩) hN).trans r2;have p3:=(zA.cell (p:=⟨w.heap.size+1,3,none⟩) hN).trans r3;have pf:∀j,w2.frozen? ⟨w.heap.size+1,j,none⟩=false:=fun j=>(zA.frozen (p:=⟨w.heap.size+1,j,none⟩) hN).trans (rf j);have zE:=zF.trans (zA.mono (by omega))
  have zC:w.heap.size+1<w2.heap.size:=by omega
  have zI:¬W.heap.size=w.heap.size+1:=by omega
  have zJ:¬w.heap.size+1=W.heap.size:=by omega
  clear zB HD;go_wp2;refine bodyPost_ret (v:=.tuple #[.agg #[.string u,XJ bo,.string t,.slice sa sb sc],.bool ok]) (by first|(simp[results,results123,go_sem,p0,p1,p2,p3];done)|(simp[results,results123,go_sem,p0,p1,p2,p3,zC];done)) rfl ⟨rfl,?_⟩
  first
   |(have zO:=nf 0;exact((((((((zE.setCell (by simp;omega) _).setCell (by simp;omega) _).setCell (by simp;omega) _).setCell (by simp;omega) _).setCell (by simp) _).setCell (by simp) _).setCell (by simp) _).setCell (by simp) _))
   |exact(((((zE.setCell (by simp) _).setCell (by simp) _).setCell (by simp) _).setCell (by simp) _).alloc (by simp;omega) _)
theorem Ut (wd:Int) (m:Nat) (s:ByteArray) (w:World) (hs:¬(s.size:Int)=wd):
 Calls prog 123 #[.agg #[XJ wd,.map (some m)],.string s] w fun e w'=>e=.returned (.tuple #[.agg #[XM,XK,XM,XN],.bool false])/\Xz w w':=by
 have zA:((s.size:Int)==wd)=false:=by simpa using hs
 go_enter func123,ntmps123;go_wp2;refine bodyPost_ret (v:=.tuple #[.agg #[XM,XK,XM,XN],.bool false]) (by simp[results,results123,go_sem]) rfl ⟨rfl,?_⟩;exact(XA).alloc (by simp) _
structure Found (ks:List Kd) (s:ByteArray) (bo:Int) (ok:Bool):Prop where
 no:ok=false->¬Au ks s
 yes:ok=true->∃x∈ks,x.sum=s/\x.born=bo
theorem Pk (wd:Int) (m n:Nat) (f:Lit->Option Value) (ks:List Kd) (W:World) (B:Nat) (s:ByteArray) (w:World) (hM:Bb w 139 m n f) (hH:CI W B wd ks f) (zA:∀k∈ks,(k.sum.size:Int)=wd):
 ∃u bo t sa sb sc ok,Found ks s bo ok/\∀w',Xz w w'->Calls prog 123 #[.agg #[XJ wd,.map (some m)],.string s] w' fun e w''=>e=.returned (.tuple #[.agg #[.string u,XJ bo,.string t,.slice sa sb sc],.bool ok])/\Xz w' w'':=by
 by_cases hs:(s.size:Int)=wd
 ·rcases hH s hs with⟨h1,h2⟩|⟨x,ra,rc,h1,h2,h3,_⟩
  ·exact⟨⟨#[]⟩,0,⟨#[]⟩,none,0,0,false,⟨fun _=>h2,fun h=>by cases h⟩,fun w' hb=>Gv wd m n f s w' (hM.keep hb hM.lt) hs _ _ _ _ _ ⟨_,_,_,rfl⟩ (by rw[h1];rfl) (by rw[h1];rfl)⟩
  ·exact⟨x.sum,x.born,x.text,ra,x.refs.length,rc,true,⟨fun h=>by(cases h),fun _=>⟨x,h1,h2,rfl⟩⟩,fun w' hb=>Gv wd m n f s w' (hM.keep hb hM.lt) hs _ _ _ _ _ ⟨_,_,_,rfl⟩ (by rw[h3];rfl) (by rw[h3];rfl)⟩
 ·exact⟨⟨#[]⟩,0,⟨#[]⟩,none,0,0,false,⟨fun _ ⟨x,hx,e⟩=>hs (by rw[←e];exact zA x hx),fun h=>by cases h⟩,fun w' _=>Ut wd m s w' hs⟩
theorem KW (wd:Int) (m n:Nat) (f:Lit->Option Value) (ks:List Kd) (W:World) (B:Nat) (s:ByteArray) (w:World) (hM:Bb w 139 m n f) (hH:CI W B wd ks f) (zE:∀k∈ks,(k.sum.size:Int)=wd):
 ∃ok,(ok=true↔Au ks s)/\∀w',Xz w w'->Calls prog 223 #[.agg #[XJ wd,.map (some m)],.string s] w' fun e w''=>e=.returned (.bool ok)/\Xz w' w'':=by
 obtain⟨u,bo,t,sa,sb,sc,ok,zA,zF⟩:=Pk wd m n f ks W B s w hM hH zE;refine⟨ok,⟨fun h=> ?_,fun h=> ?_⟩,fun w' hb=> ?_⟩
 ·obtain⟨x,hx,e,_⟩:=zA.yes h
  exact⟨x,hx,e⟩
 ·cases ok with
  |true=>rfl
  |false=>exact absurd h (zA.no rfl)
 ·have zC:Below w'.heap.size w' (w'.alloc (.cells #[XJ wd,.map (some m)] 128)):=XA
  have HC:Hid _:=zF _ (hb.trans (zC.mono hb.size));clear zF hM hH zE zA;go_enter func223,ntmps223;go_wp2_with fail;refine Calls.mono HC.o ?_;rintro e w2 ⟨rfl,zB⟩;go_wp2;go_ret;exact⟨rfl,(zC.trans (zB.mono (by simp))).alloc (by have:=zB.size;simp at this;omega) _⟩
end
section
attribute [local go_sem↓] Go.wp_at_zero Go.wp_at_succ
section
open Go.WideElems Go.MapKept Go.ChangeMaps
theorem GU (w:World) (b:Nat) (x y:Obj):setBlock (setBlock w b x) b y=setBlock w b y:=by simp[setBlock]
theorem KY {P:Program} {w2:World} {t:TypeId} {b:Nat} {es:Array MapEntry} {clock st i:Nat} (val:Value) (zB:w2.heap[b]?=some (.map es clock)) (zA:es.findIdx? (fun e=>((e.born:Nat):Int)==((st:Nat):Int))=some i):
 (Instr.entryStore t (.map (some b)) (goInt st) val).run P w2=.ok () (setBlock w2 b (.map (es.modify i (fun e=>{e with val:=val})) clock)):=by
 simp[Instr.entryStore,MapKept.run_getObj_map zB,asInt,asIntOf,goInt,zA,MapKept.run_setObj_map _ zB,Result.andThen,setBlock]
theorem QG {H:Type} {P:Program} {w:World} {t k e:TypeId} {R:Value->Option (DataW H×List MemPlace)} {b:Nat} {es:Array MapEntry} {clock:Nat} (K:Maps.Keyed P k) (ht:P.underlying t=some (.map k e)) {z:Value}
 (hz:∀u:World,(zeroValue e).run P u=.ok z u) (hb:w.heap[b]?=some (.map es clock)) (F:Fit P k R es clock) {key:Value} {kl:Lit} (zA:keyOf P k key=some kl):
 ∃(v0:Value) (st:Nat) (w3:World),(Instr.mapEntry t (.map (some b)) key).run P w=.ok (.tuple #[v0,goInt st]) w3/\(Instr.lookup t (.map (some b)) key false).run P w=.ok v0 w/\(Instr.mapUpdate t (.map (some b)) key v0).run P w=.ok () w3/\
  ∀val:Value,∃w4,(Instr.entryStore t (.map (some b)) (goInt st) val).run P w3=.ok () w4/\(Instr.mapUpdate t (.map (some b)) key val).run P w=.ok () w4:=by
 obtain⟨s1,s2,_⟩:=F.stamped;rcases K.find w zA es.toList F.keys with⟨h1,h2⟩|⟨j,e0,h1,h2,h3⟩
 ·have zG:(setBlock w b (.map (es.push ⟨key,z,clock⟩) (clock+1))).heap[b]?=some (.map (es.push ⟨key,z,clock⟩) (clock+1)):=heap_setBlock_same hb _
  refine⟨z,clock,setBlock w b (.map (es.push ⟨key,z,clock⟩) (clock+1)),?_,?_,?_,fun val=>⟨setBlock w b (.map (es.push ⟨key,val,clock⟩) (clock+1)),?_,?_⟩⟩
  ·simp[Instr.mapEntry,run_underlying ht,MapKept.run_getObj_map hb,K.check w false zA,h1,hz,MapKept.run_setObj_map _ hb,Result.andThen,setBlock]
  ·simp[Instr.lookup,run_underlying ht,MapKept.run_getObj_map hb,K.check w _ zA,h1,hz,Result.andThen]
  ·simp[Instr.mapUpdate,run_underlying ht,MapKept.run_getObj_map hb,K.check w false zA,h1,MapKept.run_setObj_map _ hb,Result.andThen,setBlock]
  ·have zC:(es.push ⟨key,z,clock⟩).findIdx? (fun e=>((e.born:Nat):Int)==((clock:Nat):Int))=some es.size:=by
    rw[findIdx_arr];have:=findIdx_born (l:=(es.push ⟨key,z,clock⟩).toList) (j:=es.size) (e0:=⟨key,z,clock⟩) (by
     simp only[Array.toList_push,List.map_append,List.map_cons,List.map_nil];refine List.nodup_append.2 ⟨s2,by simp,fun a ha c hc e1=> ?_⟩;simp only[List.mem_singleton] at hc;obtain⟨x,hx,rfl⟩:=List.mem_map.1 ha;have:=s1 x hx;omega) (by simp)
    exact this
   have zE:(es.push ⟨key,z,clock⟩).modify es.size (fun e=>{e with val:=val})=es.push ⟨key,val,clock⟩:=by
    apply Array.ext';rw[Array.toList_modify,Array.toList_push,Array.toList_push,←Array.length_toList,modify_last]
   rw[KY val zG zC,GU,zE]
  ·simp[Instr.mapUpdate,run_underlying ht,MapKept.run_getObj_map hb,K.check w false zA,h1,MapKept.run_setObj_map _ hb,Result.andThen,setBlock]
 ·have hj:es[j]?=some e0:=by simpa using h2
  have zF:es.modify j (fun e=>{e with key:=key})=es:=by
   apply Array.ext';rw[Array.toList_modify,modify_eq_set _ _ _ _ h2];have:({e0 with key:=key}:MapEntry)=e0:=by rw[←h3]
   rw[this];exact set_self _ _ _ h2
  have zB:es.modify j (fun e'=>{e' with key:=key,val:=e0.val})=es:=by
   apply Array.ext';rw[Array.toList_modify,modify_eq_set _ _ _ _ h2];have:({e0 with key:=key,val:=e0.val}:MapEntry)=e0:=by rw[←h3]
   rw[this];exact set_self _ _ _ h2
  have zG:(setBlock w b (.map es clock)).heap[b]?=some (.map es clock):=heap_setBlock_same hb _;refine⟨e0.val,e0.born,setBlock w b (.map es clock),?_,?_,?_,fun val=>⟨setBlock w b (.map (es.modify j (fun e'=>{e' with key:=key,val:=val})) clock),?_,?_⟩⟩
  ·simp[Instr.mapEntry,run_underlying ht,MapKept.run_getObj_map hb,K.check w false zA,h1,hj,h3,K.stays w zA,zF,MapKept.run_setObj_map _ hb,Result.andThen,setBlock]
  ·simp[Instr.lookup,run_underlying ht,MapKept.run_getObj_map hb,K.check w _ zA,h1,Result.andThen]
  ·simp[Instr.mapUpdate,run_underlying ht,MapKept.run_getObj_map hb,K.check w false zA,h1,hj,h3,K.stays w zA,zB,MapKept.run_setObj_map _ hb,Result.andThen,setBlock]
  ·have zC:es.findIdx? (fun e=>((e.born:Nat):Int)==((e0.born:Nat):Int))=some j:=by
    rw[findIdx_arr];exact findIdx_born s2 h2
   have zE:es.modify j (fun e=>{e with val:=val})=es.modify j (fun e'=>{e' with key:=key,val:=val}):=by
    apply Array.ext';rw[Array.toList_modify,Array.toList_modify,modify_eq_set _ _ _ _ h2,modify_eq_set _ _ _ _ h2,←h3]
   rw[KY val zG zC,GU,zE]
  ·simp[Instr.mapUpdate,run_underlying ht,MapKept.run_getObj_map hb,K.check w false zA,h1,hj,h3,K.stays w zA,MapKept.run_setObj_map _ hb,Result.andThen,setBlock]
end
def CJ (w:World) (K:TypeId) (b n c:Nat) (f:Lit->Option Value):Prop:=
 ∃D:DataW Value,w.ownsMap prog K Mf b n D/\(∀kl z,D.atKey kl (.held z)=.held ((f kl).getD z))/\(∀kl,Maps.has D kl=(f kl).isSome)/\Maps.Tidy D/\Maps.size D=c
theorem CJ.map {w:World} {K:TypeId} {b n c:Nat} {f:Lit->Option Value} (h:CJ w K b n c f):Bb w K b n f:=let ⟨D,h1,h2,h3,_⟩:=h;⟨D,h1,h2,h3⟩
theorem CJ.new (w:World) (K:TypeId):CJ (w.alloc (.map #[] 0)) K w.heap.size 0 0 (fun _=>none):=
 ⟨.map [],World.ownsMap_made _ _ _ _,fun _ _=>rfl,fun _=>rfl,Maps.tidy_empty,rfl⟩
theorem CJ.keep {w w':World} {K:TypeId} {b n c:Nat} {f:Lit->Option Value} (h:CJ w K b n c f) {B:Nat} (hb:Below B w w') (hB:b<B):CJ w' K b n c f:=by
 obtain⟨D,⟨es,clock,h1,h2⟩,h3⟩:=h;exact⟨D,⟨es,clock,(hb.block b hB).trans h1,h2⟩,h3⟩
theorem CJ.len {w:World} {K t e:TypeId} {b n c:Nat} {f:Lit->Option Value} (h:CJ w K b n c f) (ht:prog.underlying t=some (.map K e)) (ty:TypeId):(Builtin.len_ #[t] ty #[.map (some b)]).run prog w=.ok (XJ c) w:=by
 obtain⟨D,h1,_,_,_,h5⟩:=h;rw[←h5];exact h1.len ht ty
theorem CJ.put {w:World} {K t e:TypeId} {b n c:Nat} {f:Lit->Option Value} (h:CJ w K b n c f) (hK:Maps.Keyed prog K) (ht:prog.underlying t=some (.map K e)) (hn:n<maxLen) {key val:Value} {kl:Lit} (zA:keyOf prog K key=some kl):
 ∃w',(Instr.mapUpdate t (.map (some b)) key val).run prog w=.ok () w'/\CJ w' K b (n+1) (if (f kl).isSome then c else c+1) (upd f kl val)/\w.grownBy w' (some b):=by
 obtain⟨D,h1,h2,h3,h4,h5⟩:=h;obtain⟨w',hr,ho,hg⟩:=h1.update hK ht hn zA (d:=.held val) (ps:=[]) (val:=val) rfl;have hm:=h1.isMap;have zB:=hK.key zA;refine⟨w',hr,⟨_,ho,fun x z=> ?_,fun x=> ?_,h4.put zB _,?_⟩,hg⟩
 ·by_cases hx:x=kl
  ·subst hx;rw[Maps.atKey_put_same hm zB,Ds];rfl
  ·rw[Maps.atKey_put_other hx,Dl _ _ hx];exact h2 x z
 ·by_cases hx:x=kl
  ·subst hx;rw[Maps.has_put_same hm zB,Ds];rfl
  ·rw[Maps.has_put_other hx,Dl _ _ hx];exact h3 x
 ·rw[Maps.size_put h4,h3,h5]
theorem CJ.bump {w:World} {K t e:TypeId} {b n c:Nat} {f:Lit->Option Value} (h:CJ w K b n c f) (hK:Maps.Keyed prog K) (ht:prog.underlying t=some (.map K e)) (hn:n<maxLen) {z:Value} (hz:∀u:World,(zeroValue e).run prog u=.ok z u) {key:Value} {kl:Lit} (zA:keyOf prog K key=some kl) (val:Value):
 ∃st w3 w4,(Instr.mapEntry t (.map (some b)) key).run prog w=.ok (.tuple #[(f kl).getD z,goInt st]) w3/\(Instr.lookup t (.map (some b)) key false).run prog w=.ok ((f kl).getD z) w/\(Instr.lookup t (.map (some b)) key false).run prog w3=.ok ((f kl).getD z) w3/\
  (Instr.entryStore t (.map (some b)) (goInt st) val).run prog w3=.ok () w4/\CJ w4 K b (n+1) (if (f kl).isSome then c else c+1) (upd f kl val)/\w.grownBy w3 (some b)/\w.grownBy w4 (some b):=by
 have h0:=h;obtain⟨D,⟨es,clock,hb,F,hs,hD⟩,h2,h3,h4,h5⟩:=h;obtain⟨v0,st,w3,he,hl,hu,zH⟩:=QG hK ht hz hb F zA;have zC:=h0.map.look hK ht (hz w) zA;rw[hl] at zC;cases zC;obtain⟨w4,zM,zJ⟩:=zH val;obtain⟨zP,zE,zN,zG⟩:=h0.put hK ht hn zA (val:=(f kl).getD z);rw[hu] at zE;cases zE;obtain⟨zO,zB,zK,zI⟩:=h0.put hK ht hn zA (val:=val);rw[zJ] at zB;cases zB;have zF:=zN.map.look hK ht (hz w3) zA;rw[Ds] at zF
 exact⟨st,w3,w4,he,hl,zF,zM,zK,zG,zI⟩
structure MK (ms:List ByteArray) (f:Lit->Option Value) (c:Nat):Prop where
 has:∀l,(f l).isSome=true↔l∈ms.map keyL
 num:∀l v,f l=some v->∃n:Int,v=XJ n/\1<=n/\n<=ms.length
 le:c<=ms.length
 all:c=ms.length↔(ms.map keyL).Nodup
theorem MK.nil:MK [] (fun _=>none) 0:=⟨fun l=>(by simp),fun l v h=>(by simp at h),XB,(by simp)⟩
theorem MK.get {ms:List ByteArray} {f:Lit->Option Value} {c:Nat} (h:MK ms f c) (l:Lit):∃n:Int,(f l).getD XK=XJ n/\0<=n/\n<=ms.length/\(0<n↔l∈ms.map keyL):=by
 cases hf:f l with
 |none=>
  refine⟨0,rfl,Int.le_refl _,by omega,?_⟩;have:=h.has l;rw[hf] at this;simp at this ⊢;exact this
 |some v=>
  obtain⟨n,rfl,h1,h2⟩:=h.num l v hf;have:=h.has l;rw[hf] at this;exact⟨n,rfl,by omega,h2,⟨fun _=>this.1 rfl,fun _=>by omega⟩⟩
theorem MK.snoc {ms:List ByteArray} {f:Lit->Option Value} {c:Nat} (h:MK ms f c) (x:ByteArray) {n:Int} (h0:0<=n) (h1:n<=ms.length):
 MK (ms++[x]) (upd f (keyL x) (XJ (n+1))) (if (f (keyL x)).isSome then c else c+1):=by
 have hx:=h.has (keyL x);refine⟨fun l=> ?_,fun l v hv=> ?_,?_,?_⟩
 ·by_cases e:l=keyL x
  ·subst e;rw[Ds];simp
  ·rw[Dl _ _ e,h.has l]
   simp only[List.map_append,List.map_cons,List.map_nil,List.mem_append,List.mem_singleton];exact⟨fun h=> .inl h,fun h=>h.resolve_right e⟩
 ·by_cases e:l=keyL x
  ·subst e
   rw[Ds] at hv;cases hv;exact⟨n+1,rfl,by omega,by simp;omega⟩
  ·rw[Dl _ _ e] at hv
   obtain⟨m,e1,e2,e3⟩:=h.num l v hv;exact⟨m,e1,e2,by simp;omega⟩
 ·have:=h.le
  split<;>simp<;>omega
 ·have zB:=h.le
  have zA:=h.all;rw[List.map_append,List.map_cons,List.map_nil,List.length_append];by_cases hm:keyL x∈ms.map keyL
  ·rw[if_pos (hx.2 hm)]
   constructor
   ·intro e;simp at e;omega
   ·intro e
    have:=(List.nodup_append.1 e).2.2 _ hm _ (by simp) rfl;cases this
  ·rw[if_neg (fun e=>hm (hx.1 e))]
   constructor
   ·intro e
    refine List.nodup_append.2 ⟨zA.1 (by simp at e;omega),by simp,fun a ha b hb e=> ?_⟩;simp at hb;subst hb;subst e;exact hm ha
   ·intro e
    have:=zA.2 (List.nodup_append.1 e).1;simp;omega
theorem GY {a:Int} (h0:0<=a) (h1:a<=2000000000):IntKind.i64.wrap a=a:=by
 unfold IntKind.wrap;simp[IntKind.signed,IntKind.bits];omega
theorem Uu (w:World):(zeroValue 3).run prog w=.ok XK w:=by kernel_rfl
end
structure AB (W:World) where
 w:World
 h:Below W.heap.size W w
theorem AB.ne (W:World):Nonempty (AB W):=⟨⟨W,Below.refl _ _⟩⟩
theorem AB.cell {W:World} {b o:Nat} {v:Value} (hv:W.cell? (XL b o)=some v) (hb:b<W.heap.size) (n:AB W):n.w.cell? (XL b o)=some v:=(n.h.cell (p:=⟨b,o,none⟩) hb).trans hv
def AB.next {W:World} (n:AB W) {w':World} (h:Below n.w.heap.size n.w w'):AB W:=⟨w',n.h.trans (h.mono n.h.size)⟩
theorem Pm {P:Program} {ops:Array Oper} {id:Nat} {Q:Exit->Act->World->Prop} {a:Act} {w:World} (hm:P.follows .mixedOrders=true) (hB:Region.lexB .any ops=true)
 (h:wpQuiet P ops (fun w'=>∃n:AB w,w'=n.w) (fun a'=>∀n:AB w,Q .normal a' n.w) ops.toList a):(Code.region id ops true).wp P Q a w:=by
 refine wp_region_quiet (C:=fun w'=>∃n:AB w,w'=n.w) hm hB ⟨⟨_,(Below.refl _ _).drew⟩,rfl⟩ ?_;have e:(fun a'=>∀w',(∃n:AB w,w'=n.w)->Q .normal a' w')=(fun a'=>∀n:AB w,Q .normal a' n.w):=by
  funext a'
  exact propext ⟨fun h n=>h _ ⟨n,rfl⟩,fun h _ ⟨n,e⟩=>e▸h n⟩
 rw[e];exact h
theorem AE {P:Program} {l:List Oper} {id:Nat} {Q:Exit->Act->World->Prop} {a:Act} {w:World} (hm:P.follows .mixedOrders=true) (hB:Region.lexB .any l.toArray=true)
 (h:wpQuiet P l.toArray (fun w'=>∃n:AB w,w'=n.w) (fun a'=>∀n:AB w,Q .normal a' n.w) l a):(Code.region id l.toArray true).wp P Q a w:=
 Pm hm hB (by simpa using h)
theorem AB.calls {P:Program} {f:FuncId} {args:Array Value} {W:World} {v:Value} {n:AB W} (h:Calls P f args n.w fun e w'=>e=.returned v/\Below n.w.heap.size n.w w'):
 Calls P f args n.w fun e w''=>e=.returned v/\∃m:AB W,w''=m.w:=
 h.mono fun _ _ ⟨he,hb⟩=>⟨he,n.next hb,rfl⟩
theorem Ii (t:ByteArray) (ss:List ByteArray) (wd:Int):(AF t ss wd).size<=maxLen:=by
 unfold AF;split
 ·rename_i h
  have h:=Cq h;have h1:=h.bulk_le;have h2:=h.text;have:(ByteArray.mk (BZ t ss).toArray).size=1+(bulk ss+t.size):=by
   show(BZ t ss).toArray.size=_;simp only[List.size_toArray,BZ,List.length_cons,List.length_append,Er,Array.length_toList];show _+t.size+1=_;omega
  rw[this];unfold maxLen;omega
 ·simp[maxLen]
def Xk (w:World) (wd:Int) (m:Nat) (ks:List Kd) (s:ByteArray):Prop:=
 ∃ok,(ok=true↔Au ks s)/\∀w',Xz w w'->Calls prog 223 #[.agg #[XJ wd,.map (some m)],.string s] w' fun e w''=>e=.returned (.bool ok)/\Xz w' w''
def Ak (P:Prop) (w0 w:World) (e:Ending):Prop:=∃b,e=.returned (.bool b)/\(b=true↔P)/\Xz w0 w
theorem Ak.yes {P:Prop} {w0 w:World} (h:P) (hb:Xz w0 w):Ak P w0 w (.returned (.bool true)):=⟨_,rfl,by simpa using h,hb⟩
theorem Ak.no {P:Prop} {w0 w:World} (h:¬P) (hb:Xz w0 w):Ak P w0 w (.returned (.bool false)):=⟨_,rfl,by simpa using h,hb⟩
def WW (w:World) (wd:Int) (m:Nat) (ks:List Kd) (s:ByteArray):Prop:=
 ∃u bo t sa sb sc ok,Found ks s bo ok/\∀w',Xz w w'->Calls prog 123 #[.agg #[XJ wd,.map (some m)],.string s] w' fun e w''=>e=.returned (.tuple #[.agg #[.string u,XJ bo,.string t,.slice sa sb sc],.bool ok])/\Xz w' w''
theorem JE (n:Int) (w:World):
 Calls prog 44 #[XJ n] w fun e w'=>e=.returned (.bool (decide (1<=n/\n<=8)))/\w'=w:=by
 by_cases h1:1<=n
 ·by_cases h2:n<=8
  ·go_enter func44,ntmps44
   go_wp2;go_ret;exact⟨Ao (by simp[h1,h2]),rfl⟩
  ·have zA:decide (n<=8)=false:=by simpa using h2
   go_enter func44,ntmps44;go_wp2;go_ret;exact⟨rfl,rfl⟩
 ·have zB:decide (1<=n)=false:=by simpa using h1
  go_enter func44,ntmps44;go_wp2;go_ret;exact⟨rfl,rfl⟩
theorem JF (k:Kd) (wd:Int) (h:1<=wd):((OW k wd).size:Int)=wd:=by
 have e:∀l:List Int,(strOfNums l).size=l.length:=fun l=>by unfold strOfNums;simp[ByteArray.size]
 unfold OW Ec;rw[e,Dc];omega
theorem GZ (n:Int) (w:World):
 Calls prog 40 #[XJ n] w fun e w'=>e=.returned (.bool (decide (1<=n/\n<=8)))/\w'=w:=by
 by_cases h1:1<=n
 ·by_cases h2:n<=8
  ·go_enter func40,ntmps40
   go_wp2;go_ret;exact⟨Ao (by simp[h1,h2]),rfl⟩
  ·have zA:decide (n<=8)=false:=by simpa using h2
   go_enter func40,ntmps40;go_wp2;go_ret;exact⟨rfl,rfl⟩
 ·have zB:decide (1<=n)=false:=by simpa using h1
  go_enter func40,ntmps40;go_wp2;go_ret;exact⟨rfl,rfl⟩
theorem IG (s:ByteArray) (w:World):
 Calls prog 135 #[.string s] w fun e w'=>e=.returned (.agg #[.int .u8 (kB s 0),.int .u8 (kB s 1),.int .u8 (kB s 2),.int .u8 (kB s 3),.int .u8 (kB s 4),.int .u8 (kB s 5),.int .u8 (kB s 6),.int .u8 (kB s 7)])/\Xz w w':=GS s w
def Ey (s:ByteArray):Obj:=.cells #[.int .u8 (kB s 0),.int .u8 (kB s 1),.int .u8 (kB s 2),.int .u8 (kB s 3),.int .u8 (kB s 4),.int .u8 (kB s 5),.int .u8 (kB s 6),.int .u8 (kB s 7)] 139
theorem R8.one (w:World) (s:ByteArray):R8 (w.alloc (Ey s)) (w.heap.size+1) (.slice (some ⟨w.heap.size,0,none⟩) 1 1) [s]:=by
 refine .inr ⟨w.heap.size,0,1,rfl,by omega,fun i t ht j hj=> ?_⟩;cases i with
 |zero=>
  simp at ht;subst ht;rw[Nat.zero_mul,Nat.zero_add,Nat.zero_add];unfold Ey;rw[World.cell?_alloc_at _ _ _ _ rfl]
  match j,hj with
  |0,_|1,_|2,_|3,_|4,_|5,_|6,_|7,_=>rfl
 |succ i=>simp at ht
section
section
open Go.WideElems Go.MapKept Go.ChangeMaps
end
def Wf (E:List (ByteArray×ByteArray)) (t:ByteArray):List ByteArray:=E.filterMap (fun p=>if p.1=t then some p.2 else none)
noncomputable def rowV (f:Lit->Option Value) (t:ByteArray):Value:=(f (keyL t)).getD XN
structure Lk (w:World) (base b n:Nat) (wd:Int) (E:List (ByteArray×ByteArray)) (av:List Nat) (f:Lit->Option Value):Prop where
 map:Bb w 139 b n f
 row:∀t:ByteArray,(t.size:Int)=wd->WB w base (rowV f t) (Wf E t)
 apart:∀s t:ByteArray,(s.size:Int)=wd->(t.size:Int)=wd->s≠t->∀g,AD (rowV f s)=some g->AD (rowV f t)≠some g
 far:∀t:ByteArray,(t.size:Int)=wd->∀g,AD (rowV f t)=some g->g∉av
end
section
attribute [local go_sem↓] Go.wp_at_zero Go.wp_at_succ
theorem Aa.same {w w':World} {B:Nat} {l:List Value} (h:Aa w B l) (hb:w'.heap[B]?=w.heap[B]?):Aa w' B l:=
 fun j v hj=>⟨(World.cell?_of_block (a:=⟨B,j,none⟩) hb).trans (h j v hj).1,(World.frozen?_of_block (a:=⟨B,j,none⟩) hb).trans (h j v hj).2⟩
theorem FO (w:World) (o:Obj) {b:Nat} (h:b<w.heap.size):(w.alloc o).heap[b]?=w.heap[b]?:=Below.heap_alloc w o b h
theorem Ww {w w':World} {B:Nat} {s:ByteArray} (h:w'.heap[B]?=w.heap[B]?) (hc:Aa w B [.int .u8 (kB s 0),.int .u8 (kB s 1),.int .u8 (kB s 2),.int .u8 (kB s 3),.int .u8 (kB s 4),.int .u8 (kB s 5),.int .u8 (kB s 6),.int .u8 (kB s 7)]):
 w'.cell? (XL B 0)=some (.int .u8 (kB s 0))/\w'.cell? (XL B 1)=some (.int .u8 (kB s 1))/\w'.cell? (XL B 2)=some (.int .u8 (kB s 2))/\w'.cell? (XL B 3)=some (.int .u8 (kB s 3))/\w'.cell? (XL B 4)=some (.int .u8 (kB s 4))/\w'.cell? (XL B 5)=some (.int .u8 (kB s 5))/\w'.cell? (XL B 6)=some (.int .u8 (kB s 6))/\w'.cell? (XL B 7)=some (.int .u8 (kB s 7)):=by
 have:=Aa.same hc h;exact⟨(this 0 _ rfl).1,(this 1 _ rfl).1,(this 2 _ rfl).1,(this 3 _ rfl).1,(this 4 _ rfl).1,(this 5 _ rfl).1,(this 6 _ rfl).1,(this 7 _ rfl).1⟩
end
end Go.Proofs.YtpekbmegopfhfaaGreatDoor
