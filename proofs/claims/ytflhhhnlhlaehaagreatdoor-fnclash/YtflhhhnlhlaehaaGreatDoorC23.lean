import Derived.Test.YtflhhhnlhlaehaaGreatDoorC22
import Derived.Conc.RwLib
import Derived.Conc.MuLone
import Derived.KernelRfl
import Derived.Laws.Tables
set_option maxRecDepth 100000
set_option maxHeartbeats 16000000
namespace Go.Proofs.YtflhhhnlhlaehaaGreatDoor
open Go.ChangeShapes Go.WideShapes Go.ChangeAt Go.RowKit _root_.Go.Proofs.Tryz
def GN (d:Dd) (S U T P L Q M:Value):List Value:=.int .i64 d.c::(Dx d.v S U T P L Q M++[.string d.s,.int .i64 d.n,.string d.a,.string d.b])
def Cs:List Value:=[.int .i64 0,.int .i64 0,.int .i64 0,.slice none 0 0,.slice none 0 0,.int .i64 0,.int .i64 0,.int .i64 0,.int .i64 0,.slice none 0 0,.slice none 0 0,.slice none 0 0,.int .i64 0,.slice none 0 0,.slice none 0 0,.int .i64 0,.int .i64 0,.int .i64 0,.string ⟨#[]⟩,.int .i64 0,.string ⟨#[]⟩,.string ⟨#[]⟩]
theorem AN {X W:World} {d:Nat} (h:X.heap[d]?=W.heap[d]?) (j:Nat):X.cell? ⟨d,j,none⟩=W.cell? ⟨d,j,none⟩:=by
 simp[World.cell?,h]
theorem Aa.ofB {w:World} {o:Nat} {t:TypeId} {l:List Value} (h:w.heap[o]?=some (.cells l.toArray t (0,0))):Aa w o l:=fun j v hv=>by
 refine⟨?_,by simp[World.frozen?,h]⟩;simp[World.cell?,h];exact hv
theorem Aa.setMid {B:Nat}:∀(vs l1 l2 l3:List Value) (w:World),Aa w B (l1++(l2++l3))->vs.length=l2.length->Aa (w.setCells B l1.length vs) B (l1++(vs++l3))
 |[],l1,[],l3,w,h,_=>h
 |v::r,l1,u::l2,l3,w,h,hl=>by
  have h1:=h.set l1.length v;rw[show(l1++(u::l2++l3)).set l1.length v=(l1++[v])++(l2++l3) by simp] at h1;have h2:=Aa.setMid r (l1++[v]) l2 l3 _ h1 (by simpa using hl);rw[List.length_append,List.length_singleton,List.append_assoc,List.singleton_append,←List.cons_append] at h2;exact h2
 |[],_,_::_,_,_,_,h=>by simp at h
 |_::_,_,[],_,_,_,h=>by simp at h
theorem Aa.thereMid {w:World} {B:Nat} (l1 l2 l3:List Value) (h:Aa w B (l1++(l2++l3))):w.there B l1.length l2.length:=fun j hj=>by
 have h1:=h (l1.length+j) _ (Uu (by simp;omega));exact⟨by rw[h1.1];rfl,h1.2⟩
theorem Sk {X:World} {b:Nat} {u v:Value} (h0:X.cell? ⟨b,0,none⟩=some u) (h1:X.cell? ⟨b,1,none⟩=some v):X.rangeAt b 0 [u,v]:=fun j x hx=>by
 match j with
 |0=>cases hx;exact h0
 |1=>cases hx;exact h1
 |_+2=>simp at hx
theorem FH {X W9 zA:World} {k rb:Nat} {z:Value} {l cs zs:List Value} (hk:Aa X k (.int .i32 1::l)) (hz:Aa X rb (z::zs)) (hl:cs.length=(z::zs).length) (zC:k≠rb) (h9:W9=X.setCells rb 0 cs) (zB:zA=W9.setCell ⟨k,0,none⟩ (.int .i32 0)):
 W9.cell? ⟨k,0,none⟩=some (.int .i32 1)/\W9.frozen? ⟨k,0,none⟩=false/\Aa zA rb cs/\Tn [rb,k] X zA:=by
 have t9:Tn [rb] X W9:=by rw[h9];exact AB _ _ _ _
 have t10:Tn [k] W9 zA:=by rw[zB];exact Tn.set _ _ _ _ (by simp)
 have x9:Aa W9 rb cs:=by rw[h9];exact hz.setAll cs hl
 have k9:=Aa.same hk (t9.block _ hk.lt (by simp;exact zC));obtain⟨l0,g0⟩:=k9 0 _ rfl;exact⟨l0,g0,Aa.same x9 (t10.block _ (Uy hz.lt t9.size) (by simp;omega)),(t9.mono (by simp)).trans (t10.mono (by simp))⟩
theorem AV.apart {w:World} {base:Nat} {S U T P L Q M:Value} {rs:List Value} {v:Vd} (hs:Ar w base S v.ss) (hu:Ar w base U v.tt) (zC:∀g,Ax S=some g->Ax U≠some g) (zA:Bk w base T P L rs v.ks v.ps v.ls) (hq:Ar w base Q v.qs) (hm:Ar w base M v.ms) (zB:∀g,Ax Q=some g->Ax M≠some g)
 (h1:∀g,Ax S=some g∨Ax U=some g->g∉BQ T P L rs) (h2:∀g,Ax Q=some g∨Ax M=some g->g∉BQ T P L rs) (h3:∀g g',Ax S=some g∨Ax U=some g->Ax Q=some g'∨Ax M=some g'->g≠g'):AV w base S U T P L Q M rs v:=by
 refine⟨hs,hu,zA,hq,hm,?_⟩;have hn:=zA.nd;rw[Jg] at hn;unfold IP;generalize BQ T P L rs=B at *
 generalize Ax S=s at *
 generalize Ax U=u at *
 generalize Ax Q=q at *
 generalize Ax M=m at *
 have one:∀o:Option Nat,o.toList.Nodup:=fun o=>by cases o<;>simp
 simp only[List.nodup_append,List.mem_append,Option.mem_toList];refine⟨⟨one _,one _,fun a ha b hb e=>zC a ha (e▸hb)⟩,⟨hn,⟨one _,one _,fun a ha b hb e=>zB a ha (e▸hb)⟩,fun a ha b hb e=>h2 b hb (e▸ha)⟩,fun a ha b hb e=> ?_⟩;rcases hb with hb|hb
 ·exact h1 a ha (e▸hb)
 ·exact h3 a b ha hb e
theorem MH {V:List Nat} {a b c:World} (h1:Tn [] a b) (h2:Tn V b c):Tn V a c:=(h1.mono (by simp)).trans h2
def IW (v:Vd) (et:ByteArray) (n:Nat) (X:World) (sa:Option Addr) (sn sc:Nat) (ua:Option Addr) (un uc:Nat) (c:Int):Prop:=
 (v.ss.length+v.tt.length=4000/\(c==(0:Int))=false)∨(¬v.ss.length+v.tt.length=4000/\c=0/\sn=v.ss.length/\un=(v.tt++[et]).length/\Ar X n (.slice sa sn sc) v.ss/\Ar X n (.slice ua un uc) (v.tt++[et])/\∀g,Ax (.slice sa sn sc)=some g->Ax (.slice ua un uc)≠some g)
theorem OK {w8 X:World} {v:Vd} {et:ByteArray} {n lb:Nat} {sa:Option Addr} {sn sc:Nat} {ua:Option Addr} {un uc:Nat} {c:Int} (hc:Aa X lb [.slice none 0 0,.slice none 0 0]) (h:Uq w8 X) (h1:w8.heap.size<=lb) (h2:lb<n) (h3:w8.heap.size<=n) (hs:IW v et n X sa sn sc ua un uc c):
 Hid (Aa (X.setCells lb 0 [.slice sa sn sc,.slice ua un uc]) lb [.slice sa sn sc,.slice ua un uc]/\w8.heap.size<=lb/\Uq w8 (X.setCells lb 0 [.slice sa sn sc,.slice ua un uc])/\IW v et w8.heap.size (X.setCells lb 0 [.slice sa sn sc,.slice ua un uc]) sa sn sc ua un uc c):=by
 have t:=AB lb [.slice sa sn sc,.slice ua un uc] 0 X;refine⟨hc.setAll _ rfl,h1,h.trans (t.below h.size (by simp;omega)),?_⟩;rcases hs with hs|⟨e1,e2,e3,e4,e5,e6,e7⟩
 ·exact .inl hs
 ·exact .inr ⟨e1,e2,e3,e4,(e5.mono h3).turn t (fun g hg=>by have:=(e5.blk hg).1;simp;omega),(e6.mono h3).turn t (fun g hg=>by have:=(e6.blk hg).1;simp;omega),e7⟩
theorem Rv {w8 zA:World} {v:Vd} {et:ByteArray} {n:Nat} {sa:Option Addr} {sn sc:Nat} {ua:Option Addr} {un uc:Nat} {c:Int} (h:Uq w8 zA) (h3:w8.heap.size<=n) (hs:IW v et n zA sa sn sc ua un uc c):
 Hid (Aa ((zA.alloc (.cells #[.slice none 0 0,.slice none 0 0] 27)).setCells zA.heap.size 0 [.slice sa sn sc,.slice ua un uc]) zA.heap.size [.slice sa sn sc,.slice ua un uc]/\w8.heap.size<=zA.heap.size/\Uq w8 ((zA.alloc (.cells #[.slice none 0 0,.slice none 0 0] 27)).setCells zA.heap.size 0 [.slice sa sn sc,.slice ua un uc])/\IW v et w8.heap.size ((zA.alloc (.cells #[.slice none 0 0,.slice none 0 0] 27)).setCells zA.heap.size 0 [.slice sa sn sc,.slice ua un uc]) sa sn sc ua un uc c):=by
 obtain⟨x,b,_⟩:=boxed (X:=zA) (cs:=[.slice sa sn sc,.slice ua un uc]) (z:=[.slice none 0 0,.slice none 0 0]) (T:=27) rfl;refine⟨x,h.size,h.trans (b.mono h.size),?_⟩;rcases hs with hs|⟨e1,e2,e3,e4,e5,e6,e7⟩
 ·exact .inl hs
 ·exact .inr ⟨e1,e2,e3,e4,(e5.mono h3).below b,(e6.mono h3).below b,e7⟩
theorem LI {a:ByteArray} (h:¬a=⟨#[]⟩):a.toList.isEmpty=false:=by
 cases e:a.toList with
 |nil=>exact absurd (toList_inj (b:=⟨#[]⟩) (by rw[e];simp)) h
 |cons x l=>rfl
theorem LJ (b:Nat) (p q:ByteArray) (w:World) (h0:w.cell? ⟨b,0,none⟩=some (.string p)) (h1:w.cell? ⟨b,1,none⟩=some (.string q)):
 Calls prog 68 #[.slice (some ⟨b,0,none⟩) 2 2] w fun o w'=>o=.returned (.string (if p=⟨#[]⟩ then q else p))/\w'=w:=by
 go_enter func68,ntmps68;go_wp2
 go_loop [8] (fun i=>i=.int .i64 0∨(i=.int .i64 1/\p=⟨#[]⟩)∨(i=.int .i64 2/\p=⟨#[]⟩/\q=⟨#[]⟩)) (fun i=>2 -(intOf i).toNat)
 case atStart=>exact .inl rfl
 case round=>
  rcases hrel with rfl|⟨rfl,rfl⟩|⟨rfl,rfl,rfl⟩
  ·by_cases hp:p=⟨#[]⟩
   ·subst hp
    go_wp2;exact⟨by simp,by simp[intOf]⟩
   ·have zA:=LI hp
    go_wp2;go_ret;simp
  ·by_cases hq:q=⟨#[]⟩
   ·subst hq
    go_wp2;exact⟨by simp,by simp[intOf]⟩
   ·have zA:=LI hq
    go_wp2;go_ret;simp
  ·go_wp2
   go_ret;simp
abbrev Sl:Go.Conc.Locks.MuLink:={lock:=50,unlock:=51,ilock:=76,iunlock:=77,lockSlow:=113,unlockSlow:=116,disable:=109,enable:=111,acquire:=112,relMerge:=114,cas32:=110,add32:=115,tMutex:=126,tIMutex:=124,tPMutex:=158,tPIMutex:=200,tPI32:=202,tUP:=167,tNoCopy:=121,tU32:=122}
theorem Fq:Go.Conc.Locks.MuLib prog Sl:=
 ⟨func50,func51,func76,func77,func109,func111,func112,func114,func110,func115,underlying124,runUnderlying124,sizeOf124,isAgg124,zeroValue124,underlying126,runUnderlying126,sizeOf126,isAgg126,zeroValue126,underlying158,runUnderlying158,sizeOf158,isAgg158,zeroValue158,underlying200,runUnderlying200,sizeOf200,isAgg200,zeroValue200,underlying202,runUnderlying202,sizeOf202,isAgg202,zeroValue202,underlying167,runUnderlying167,sizeOf167,isAgg167,zeroValue167,underlying121,runUnderlying121,sizeOf121,isAgg121,zeroValue121,underlying21,runUnderlying21,sizeOf21,isAgg21,zeroValue21,(by kernel_rfl)⟩
theorem KD {P:Program} {ops:Array Oper} {rest:List Oper} {op:Oper} {a:Act} {w:World} {Q:Exit->Act->World->Prop} (hg:op.guard=none) (t:TypeId) (parts:Array (Nat×Operand)) (ho:op.op=.build t parts) (l:List (Nat×Value)) (hl:(parts.map fun(i,x)=>(i,a.eval x)).toList=l) (cells:Array Value) (hc:P.built t l=some cells) (h:wpList P ops Q rest (a.put op.dst (.agg cells)) w):wpList P ops Q (op::rest) a w:=
 wpList_build hg t parts ho (by rw[hl,hc];rfl) (by rw[hl,hc];exact h)
theorem Sm {vs:List Value} (h:vs.length=17):∃a0 a1 a2 a3 a4 a5 a6 a7 a8 a9 a10 a11 a12 a13 a14 a15 a16,vs=[a0,a1,a2,a3,a4,a5,a6,a7,a8,a9,a10,a11,a12,a13,a14,a15,a16]:=by
 match vs,h with
 |[a0,a1,a2,a3,a4,a5,a6,a7,a8,a9,a10,a11,a12,a13,a14,a15,a16],_=>exact⟨a0,a1,a2,a3,a4,a5,a6,a7,a8,a9,a10,a11,a12,a13,a14,a15,a16,rfl⟩
theorem OL {vs:List Value} (h:vs.length=17) (s:ByteArray) (n:Int):prog.built 42 [(1,.agg vs.toArray),(2,.string s),(3,.int .i64 n)]=some (.int .i64 0::(vs++[.string s,.int .i64 n,.string ⟨#[]⟩,.string ⟨#[]⟩])).toArray:=by
 obtain⟨a0,a1,a2,a3,a4,a5,a6,a7,a8,a9,zA,zB,zC,zD,zE,zF,zG,rfl⟩:=Sm h
 kernel_rfl
theorem Al {α:Type}:(∀(l:List α) (i:Nat) (a:α),l.toArray.setIfInBounds i a=(l.set i a).toArray)/\(∀(a b:α) (l:List α),(b::l).set 0 a=a::l)/\∀(a b:α) (l:List α) (n:Nat),(b::l).set (n+1) a=b::l.set n a:=
 ⟨fun _ _ _=>List.setIfInBounds_toArray _ _ _,fun _ _ _=>rfl,fun _ _ _ _=>rfl⟩
end Go.Proofs.YtflhhhnlhlaehaaGreatDoor
