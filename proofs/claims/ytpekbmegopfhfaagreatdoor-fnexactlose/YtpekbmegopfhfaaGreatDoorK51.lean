import Derived.Test.YtpekbmegopfhfaaGreatDoorK27
import Derived.Deep.Slices
set_option maxRecDepth 100000
set_option maxHeartbeats 16000000
namespace Go.Proofs.YtpekbmegopfhfaaGreatDoor
open Go.ChangeShapes Go.WideShapes Go.ChangeAt Go.RowKit _root_.Go.Proofs.Tryz
section
open Go.ChangeShapes Go.WideShapes Go.ChangeAt Go.RowKit Go.Deep
theorem DC:prog.cellsOf 3=1:=by kernel_rfl
theorem EH:prog.cellsOf 22=1:=by kernel_rfl
theorem Vl:prog.cellsOf 192=2:=by kernel_rfl
theorem Ws:prog.cellsOf 194=4:=by kernel_rfl
theorem WP:prog.cellsOf 196=2:=by kernel_rfl
theorem VU:prog.cellsOf 198=3:=by kernel_rfl
theorem VV:prog.cellsOf 57=7:=by kernel_rfl
theorem Xc:prog.cellsOf 53=1:=by kernel_rfl
theorem Xd:prog.cellsOf 54=1:=by kernel_rfl
theorem Xe:prog.cellsOf 55=1:=by kernel_rfl
section
variable {H:Type} {enc:TypeId×Value->H} {W:World} {base:Nat} {spare:Nat->Bool} {held:Bool} {fuel:Nat} {y:DataW H×List MemPlace}
theorem Ch {v:Value} (h:DataW.trod enc prog W base spare held fuel 3 [v]=some y):∃n,v=XJ n/\(Lit.int .i64 n).wf=true:=by
 obtain⟨n,hn,_,hw⟩:=DataW.trod_int underlying3 h;simp at hn;exact⟨n,hn,hw⟩
theorem Oq {v0 v1:Value} (h:DataW.trod enc prog W base spare held fuel 192 [v0,v1]=some y):
 ∃t a cap ss,v0=.string t/\t.size<=maxLen/\v1=.slice a (List.length ss) cap/\Ae W W.heap.size a ss/\ss.length<=maxLen/\∀s∈ss,ByteArray.size s<=maxLen:=by
 obtain⟨y0,y1,n,_,_,h0,h1⟩:=trod_struct2 underlying192 h;have zB:DataW.trod enc prog W base spare held n 9 [v0]=some y0:=by simpa [Fj] using h0
 have zC:DataW.trod enc prog W base spare held n 22 [v1]=some y1:=by simpa [EH] using h1
 obtain⟨t,ht,zA⟩:=Gl zB;obtain⟨a,cap,ss,hv,hr⟩:=FG zC;exact⟨t,a,cap,ss,ht,zA,hv,hr⟩
theorem VW {α:Type} {l:List α} (h:l.length=2):∃a b,l=[a,b]:=by match l,h with|[a,b],_=>exact⟨a,b,rfl⟩
theorem TV {α:Type} {l:List α} (h:l.length=3):∃a b c,l=[a,b,c]:=by match l,h with|[a,b,c],_=>exact⟨a,b,c,rfl⟩
theorem WQ {α:Type} {l:List α} (h:l.length=4):∃a b c d,l=[a,b,c,d]:=by match l,h with|[a,b,c,d],_=>exact⟨a,b,c,d,rfl⟩
theorem WR {α:Type} {l:List α} (h:l.length=7):∃a b c d e f g,l=[a,b,c,d,e,f,g]:=by match l,h with|[a,b,c,d,e,f,g],_=>exact⟨a,b,c,d,e,f,g,rfl⟩
theorem Sn {a:Addr} {n:Nat} {cs:List Value} (h:W.cells? base (a.add (0 *n)) n=some cs) (hn:0<n):∃b off,a=⟨b,off,none⟩/\b<W.heap.size:=by
 obtain⟨_,zB,hc⟩:=World.cells?_some h;obtain⟨b,off,spot⟩:=a;have h0:=hc 0 (by omega);rw[XD (by omega)] at h0;have zA:spot=none:=by simpa [Addr.add] using World.cell?_spot h0
 subst zA;rw[Go.WideShapes.add_plain,Go.WideShapes.add_plain] at h0;exact⟨b,off,rfl,World.block_lt_of_cell? W ⟨b,off+0 *n+0,none⟩ h0⟩
theorem Qq {b off i n:Nat} {cs:List Value} (h:W.cells? base ((⟨b,off,none⟩:Addr).add (i *n)) n=some cs):cs.length=n/\∀j v,cs[j]?=some v->W.cell? (XL b (off+i *n+j))=some v:=by
 obtain⟨_,zA,hc⟩:=World.cells?_some h;rw[Go.WideShapes.add_plain] at hc;refine⟨zA,fun j v hj=> ?_⟩;have:=hc j (by have:=(XC hj).1;omega);rw[Go.WideShapes.add_plain] at this;rw[this,hj]
theorem Ju {α:Type} [Inhabited α] {t e:TypeId} {n:Nat} {v:Value} (ht:prog.underlying t=some (.slice e)) (hc:prog.cellsOf e=n) (hn:0<n) (Q:Nat->Nat->α->Prop)
 (hr:∀(fuel:Nat) (y:DataW H×List MemPlace) (cs:List Value) (b o:Nat),DataW.trod enc prog W base spare held fuel e cs=some y->cs.length=n->(∀j v,cs[j]?=some v->W.cell? (XL b (o+j))=some v)->∃x,Q b o x)
 (h:DataW.trod enc prog W base spare held fuel t [v]=some y):
 ∃a cap,∃xs:List α,v=.slice a xs.length cap/\xs.length<=maxLen/\(xs=[]∨∃b off,a=some ⟨b,off,none⟩/\b<W.heap.size/\∀(i:Nat) x,xs[i]?=some x->Q b (off+i *n) x):=by
 rcases open_slice ht h with⟨zA,_⟩|⟨a,len,cap,m,fu,D,Pl,zA,_,hl,hm,zF,_,hx⟩
 ·simp at zA
  subst zA;exact⟨none,0,[],rfl,by simp[maxLen],.inl rfl⟩
 ·simp at zA
  subst zA;have zG:len<=m:=by rw[zF];split<;>omega
  rw[hc] at hx;by_cases h0:len=0
  ·subst h0
   exact⟨some a,cap,[],rfl,by simp[maxLen],.inl rfl⟩
  ·obtain⟨zH,zE,_⟩:=hx 0 (by omega)
   obtain⟨b,off,rfl,hb⟩:=Sn zE hn;obtain⟨F,hF⟩:=choose_lt (α:=α) (n:=len) (p:=fun i x=>Q b (off+i *n) x) (fun i hi=>by
    obtain⟨zC,h1,h2⟩:=hx i (by omega);obtain⟨h3,h4⟩:=Qq h1;exact hr _ _ zC b (off+i *n) h2 h3 h4)
   refine⟨some ⟨b,off,none⟩,cap,(List.range len).map F,by simp,by simp;omega,.inr ⟨b,off,rfl,hb,fun i x hi=> ?_⟩⟩;rw[List.getElem?_map] at hi;cases hri:(List.range len)[i]? with
   |none=>rw[hri] at hi;cases hi
   |some k=>
    rw[hri] at hi;cases hi;obtain⟨zB,hk⟩:=XC hri;simp at zB hk;subst hk;exact hF i zB
def QK (W:World) (b o:Nat) (k:Kd):Prop:=JB W W.heap.size b o k/\k.sum.size<=maxLen/\k.text.size<=maxLen/\k.refs.length<=maxLen/\(∀s∈k.refs,s.size<=maxLen)/\(Lit.int .i64 k.born).wf=true
theorem So {cs:List Value} {b o:Nat} (h:DataW.trod enc prog W base spare held fuel 194 cs=some y) (hl:cs.length=4) (hc:∀j v,cs[j]?=some v->W.cell? (XL b (o+j))=some v):∃k,QK W b o k:=by
 obtain⟨c0,c1,c2,c3,rfl⟩:=WQ hl;obtain⟨xs,n0,_,_,_,zB,zA⟩:=DataW.trod_struct underlying194 h;obtain⟨x0,x1,x2,rfl⟩:=TV (l:=xs) zB;have f0:DataW.trod enc prog W base spare held n0 9 [c0]=some x0:=by simpa [Fj] using zA 0 _ rfl
 have f1:DataW.trod enc prog W base spare held n0 3 [c1]=some x1:=by simpa [DC] using zA 1 _ rfl
 have f2:DataW.trod enc prog W base spare held n0 192 [c2,c3]=some x2:=by simpa [Vl] using zA 2 _ rfl
 obtain⟨sum,rfl,hs⟩:=Gl f0;obtain⟨bo,rfl,hw⟩:=Ch f1;obtain⟨t,ra,rc,ss,rfl,ht,rfl,hr,zC,zE⟩:=Oq f2;exact⟨⟨sum,bo,t,ss⟩,⟨hc 0 _ rfl,hc 1 _ rfl,hc 2 _ rfl,ra,rc,hc 3 _ rfl,hr⟩,hs,ht,zC,zE,hw⟩
def QP (W:World) (b o:Nat) (p:Pd):Prop:=(W.cell? (XL b o)=some (.string p.name)/\W.cell? (XL b (o+1))=some (.string p.sum))/\p.name.size<=maxLen/\p.sum.size<=maxLen
theorem TW {cs:List Value} {b o:Nat} (h:DataW.trod enc prog W base spare held fuel 196 cs=some y) (hl:cs.length=2) (hc:∀j v,cs[j]?=some v->W.cell? (XL b (o+j))=some v):∃p,QP W b o p:=by
 obtain⟨c0,c1,rfl⟩:=VW hl;obtain⟨xs,n0,_,_,_,zA,zB⟩:=DataW.trod_struct underlying196 h;obtain⟨x0,x1,rfl⟩:=VW (l:=xs) zA;have f0:DataW.trod enc prog W base spare held n0 9 [c0]=some x0:=by simpa [Fj] using zB 0 _ rfl
 have f1:DataW.trod enc prog W base spare held n0 9 [c1]=some x1:=by simpa [Fj] using zB 1 _ rfl
 obtain⟨nm,rfl,hn⟩:=Gl f0;obtain⟨sum,rfl,hs⟩:=Gl f1;exact⟨⟨nm,sum⟩,⟨hc 0 _ rfl,hc 1 _ rfl⟩,hn,hs⟩
def QL (W:World) (b o:Nat) (l:Ld):Prop:=(W.cell? (XL b o)=some (XJ l.num)/\W.cell? (XL b (o+1))=some (.string l.sum)/\W.cell? (XL b (o+2))=some (XJ l.til))/\l.sum.size<=maxLen
theorem Qr {cs:List Value} {b o:Nat} (h:DataW.trod enc prog W base spare held fuel 198 cs=some y) (hl:cs.length=3) (hc:∀j v,cs[j]?=some v->W.cell? (XL b (o+j))=some v):∃l,QL W b o l:=by
 obtain⟨c0,c1,c2,rfl⟩:=TV hl;obtain⟨xs,n0,_,_,_,zB,zA⟩:=DataW.trod_struct underlying198 h;obtain⟨x0,x1,x2,rfl⟩:=TV (l:=xs) zB;have f0:DataW.trod enc prog W base spare held n0 3 [c0]=some x0:=by simpa [DC] using zA 0 _ rfl
 have f1:DataW.trod enc prog W base spare held n0 9 [c1]=some x1:=by simpa [Fj] using zA 1 _ rfl
 have f2:DataW.trod enc prog W base spare held n0 3 [c2]=some x2:=by simpa [DC] using zA 2 _ rfl
 obtain⟨nu,rfl,_⟩:=Ch f0;obtain⟨sum,rfl,hs⟩:=Gl f1;obtain⟨ti,rfl,_⟩:=Ch f2;exact⟨⟨nu,sum,ti⟩,⟨hc 0 _ rfl,hc 1 _ rfl,hc 2 _ rfl⟩,hs⟩
theorem Ea {α:Type} {xs:List α} {b off n:Nat} {Q:Nat->Nat->α->Prop} {R:α->Prop} (h:∀(i:Nat) x,xs[i]?=some x->Q b (off+i *n) x) (hq:∀b o x,Q b o x->R x):∀x∈xs,R x:=fun x hx=>by
 obtain⟨i,hi⟩:=List.getElem?_of_mem hx;exact hq _ _ _ (h i x hi)
theorem Qs {v:Value} (h:DataW.trod enc prog W base spare held fuel 53 [v]=some y):∃a cap ks,v=.slice a (List.length ks) cap/\Bx W W.heap.size a ks/\Mp ks/\∀k∈ks,(Lit.int .i64 (Kd.born k)).wf=true:=by
 haveI:Inhabited Kd:=⟨⟨ByteArray.empty,0,ByteArray.empty,[]⟩⟩
 obtain⟨a,cap,ks,rfl,hl,hr⟩:=Ju underlying53 Ws (by omega) (QK W) (fun _ _ _ _ _ h1 h2 h3=>So h1 h2 h3) h;rcases hr with rfl|⟨b,off,rfl,hb,hq⟩
 ·exact⟨a,cap,[],rfl,.inl rfl,⟨hl,by simp,by simp,by simp,by simp⟩,by simp⟩
 ·refine⟨_,cap,ks,rfl,.inr ⟨b,off,rfl,hb,fun i k hk=>(hq i k hk).1⟩,⟨hl,Ea hq (fun _ _ _ q=>q.2.1),Ea hq (fun _ _ _ q=>q.2.2.1),Ea hq (fun _ _ _ q=>q.2.2.2.1),Ea hq (fun _ _ _ q=>q.2.2.2.2.1)⟩,Ea hq (fun _ _ _ q=>q.2.2.2.2.2)⟩
theorem Sp {v:Value} (h:DataW.trod enc prog W base spare held fuel 54 [v]=some y):∃a cap ps,v=.slice a (List.length ps) cap/\AQ W W.heap.size a ps/\Mq ps:=by
 haveI:Inhabited Pd:=⟨⟨ByteArray.empty,ByteArray.empty⟩⟩
 obtain⟨a,cap,ps,rfl,hl,hr⟩:=Ju underlying54 WP (by omega) (QP W) (fun _ _ _ _ _ h1 h2 h3=>TW h1 h2 h3) h;rcases hr with rfl|⟨b,off,rfl,hb,hq⟩
 ·exact⟨a,cap,[],rfl,.inl rfl,⟨hl,by simp,by simp⟩⟩
 ·exact⟨_,cap,ps,rfl,.inr ⟨b,off,rfl,hb,fun i k hk=>(hq i k hk).1⟩,⟨hl,Ea hq (fun _ _ _ q=>q.2.1),Ea hq (fun _ _ _ q=>q.2.2)⟩⟩
theorem Ot {v:Value} (h:DataW.trod enc prog W base spare held fuel 55 [v]=some y):∃a cap ls,v=.slice a (List.length ls) cap/\AR W W.heap.size a ls/\Mr ls:=by
 haveI:Inhabited Ld:=⟨⟨0,ByteArray.empty,0⟩⟩
 obtain⟨a,cap,ls,rfl,hl,hr⟩:=Ju underlying55 VU (by omega) (QL W) (fun _ _ _ _ _ h1 h2 h3=>Qr h1 h2 h3) h;rcases hr with rfl|⟨b,off,rfl,hb,hq⟩
 ·exact⟨a,cap,[],rfl,.inl rfl,⟨hl,by simp⟩⟩
 ·exact⟨_,cap,ls,rfl,.inr ⟨b,off,rfl,hb,fun i k hk=>(hq i k hk).1⟩,⟨hl,Ea hq (fun _ _ _ q=>q.2)⟩⟩
def Xx (wd now given births:Int) (a:Option Addr) (n ac:Nat) (p:Option Addr) (m pc:Nat) (l:Option Addr) (q lc:Nat):Value:=.agg #[XJ wd,XJ now,XJ given,XJ births,.slice a n ac,.slice p m pc,.slice l q lc]
end
end
section
section
open Go.ChangeShapes Go.WideShapes Go.ChangeAt Go.RowKit Go.Deep
variable {H:Type} {enc:TypeId×Value->H} {W:World} {base:Nat} {spare:Nat->Bool} {held:Bool}
theorem WS {α:Type} {l:List α} (h:l.length=6):∃a b c d e f,l=[a,b,c,d,e,f]:=by match l,h with|[a,b,c,d,e,f],_=>exact⟨a,b,c,d,e,f,rfl⟩
end
end
section
open Go.ChangeShapes Go.WideShapes Go.ChangeAt Go.RowKit Go.Deep
theorem Vm:prog.cellsOf 60=17:=by kernel_rfl
theorem Wt:prog.cellsOf 38=2:=by kernel_rfl
theorem Vn:prog.cellsOf 58=6:=by kernel_rfl
theorem WT {α:Type} {l:List α} (h:l.length=5):∃a b c d e,l=[a,b,c,d,e]:=by match l,h with|[a,b,c,d,e],_=>exact⟨a,b,c,d,e,rfl⟩
theorem Wu {α:Type} {l:List α} (h:l.length=17):∃x0 x1 x2 x3 x4 x5 x6 x7 x8 x9 x10 x11 x12 x13 x14 x15 x16,l=[x0,x1,x2,x3,x4,x5,x6,x7,x8,x9,x10,x11,x12,x13,x14,x15,x16]:=by match l,h with|[x0,x1,x2,x3,x4,x5,x6,x7,x8,x9,x10,x11,x12,x13,x14,x15,x16],_=>exact⟨x0,x1,x2,x3,x4,x5,x6,x7,x8,x9,x10,x11,x12,x13,x14,x15,x16,rfl⟩
section
variable {H:Type} {enc:TypeId×Value->H} {W:World} {base:Nat} {spare:Nat->Bool} {held:Bool} {fuel:Nat} {y:DataW H×List MemPlace}
theorem Sq {c0 c1:Value} (h:DataW.trod enc prog W base spare held fuel 38 [c0,c1]=some y):
 ∃a ac ss b bc tt,c0=.slice a (List.length ss) ac/\c1=.slice b (List.length tt) bc/\Ae W W.heap.size a ss/\Ae W W.heap.size b tt/\ss.length<=maxLen/\(∀s∈ss,ByteArray.size s<=maxLen)/\tt.length<=maxLen/\(∀s∈tt,ByteArray.size s<=maxLen):=by
 obtain⟨y0,y1,n,_,_,h0,h1⟩:=trod_struct2 underlying38 h;have zC:DataW.trod enc prog W base spare held n 22 [c0]=some y0:=by simpa [EH] using h0
 have zF:DataW.trod enc prog W base spare held n 22 [c1]=some y1:=by simpa [EH] using h1
 obtain⟨a,ac,ss,hv,hr,hl,hs⟩:=FG zC;obtain⟨b,bc,tt,zG,zA,zB,zE⟩:=FG zF;exact⟨a,ac,ss,b,bc,tt,hv,zG,hr,zA,hl,hs,zB,zE⟩
theorem Ou {c0 c1 c2 c3 c4 c5 c6:Value} (h:DataW.trod enc prog W base spare held fuel 57 [c0,c1,c2,c3,c4,c5,c6]=some y):
 ∃wd now given births a ac p pc l lc ks ps ls,c0=XJ wd/\c1=XJ now/\c2=XJ given/\c3=XJ births/\c4=.slice a (List.length ks) ac/\c5=.slice p (List.length ps) pc/\c6=.slice l (List.length ls) lc/\Bt W W.heap.size a p l ks ps ls/\Mp ks/\Mq ps/\Mr ls:=by
 obtain⟨xs,n0,_,_,_,zB,zA⟩:=DataW.trod_struct underlying57 h;obtain⟨x0,x1,x2,x3,x4,x5,x6,rfl⟩:=WR (l:=xs) zB;have f0:DataW.trod enc prog W base spare held n0 3 [c0]=some x0:=by simpa [DC] using zA 0 _ rfl
 have f1:DataW.trod enc prog W base spare held n0 3 [c1]=some x1:=by simpa [DC] using zA 1 _ rfl
 have f2:DataW.trod enc prog W base spare held n0 3 [c2]=some x2:=by simpa [DC] using zA 2 _ rfl
 have f3:DataW.trod enc prog W base spare held n0 3 [c3]=some x3:=by simpa [DC] using zA 3 _ rfl
 have f4:DataW.trod enc prog W base spare held n0 53 [c4]=some x4:=by simpa [Xc] using zA 4 _ rfl
 have f5:DataW.trod enc prog W base spare held n0 54 [c5]=some x5:=by simpa [Xd] using zA 5 _ rfl
 have f6:DataW.trod enc prog W base spare held n0 55 [c6]=some x6:=by simpa [Xe] using zA 6 _ rfl
 obtain⟨wd,h0,_⟩:=Ch f0;obtain⟨now,h1,_⟩:=Ch f1;obtain⟨given,h2,_⟩:=Ch f2;obtain⟨births,h3,_⟩:=Ch f3;obtain⟨a,ac,ks,h4,hk,zE,_⟩:=Qs f4;obtain⟨p,pc,ps,h5,hp,zC⟩:=Sp f5;obtain⟨l,lc,ls,h6,hl,zF⟩:=Ot f6;exact⟨wd,now,given,births,a,ac,p,pc,l,lc,ks,ps,ls,h0,h1,h2,h3,h4,h5,h6,⟨hk,hp,hl⟩,zE,zC,zF⟩
theorem Ov {c0 c1 c2 c3 c4 c5:Value} (h:DataW.trod enc prog W base spare held fuel 58 [c0,c1,c2,c3,c4,c5]=some y):
 ∃(ph top at_ ro:Int) (qa:Option Addr) (zB:Nat) (ma:Option Addr) (zC:Nat) (qs ms:List ByteArray),c0=XJ ph/\c1=.slice qa (List.length qs) zB/\c2=.slice ma (List.length ms) zC/\c3=XJ top/\c4=XJ at_/\c5=XJ ro/\Ae W W.heap.size qa qs/\Ae W W.heap.size ma ms/\
  qs.length<=maxLen/\(∀s∈qs,ByteArray.size s<=maxLen)/\ms.length<=maxLen/\(∀s∈ms,ByteArray.size s<=maxLen):=by
 obtain⟨xs,n0,_,_,_,zE,zA⟩:=DataW.trod_struct underlying58 h;obtain⟨x0,x1,x2,x3,x4,x5,rfl⟩:=WS (l:=xs) zE;have f0:DataW.trod enc prog W base spare held n0 3 [c0]=some x0:=by simpa [DC] using zA 0 _ rfl
 have f1:DataW.trod enc prog W base spare held n0 22 [c1]=some x1:=by simpa [DC,EH] using zA 1 _ rfl
 have f2:DataW.trod enc prog W base spare held n0 22 [c2]=some x2:=by simpa [DC,EH] using zA 2 _ rfl
 have f3:DataW.trod enc prog W base spare held n0 3 [c3]=some x3:=by simpa [DC,EH] using zA 3 _ rfl
 have f4:DataW.trod enc prog W base spare held n0 3 [c4]=some x4:=by simpa [DC,EH] using zA 4 _ rfl
 have f5:DataW.trod enc prog W base spare held n0 3 [c5]=some x5:=by simpa [DC,EH] using zA 5 _ rfl
 obtain⟨ph,h0,_⟩:=Ch f0;obtain⟨top,h3,_⟩:=Ch f3;obtain⟨at_,h4,_⟩:=Ch f4;obtain⟨ro,h5,_⟩:=Ch f5;obtain⟨qa,zB,qs,h1,hq,zH,zF⟩:=FG f1;obtain⟨ma,zC,ms,h2,hm,zG,zI⟩:=FG f2;exact⟨ph,top,at_,ro,qa,zB,ma,zC,qs,ms,h0,h1,h2,h3,h4,h5,hq,hm,zH,zF,zG,zI⟩
theorem Kq {r:Reach} {b0:Nat} {u:Value} {d:DataW H} {pl:List MemPlace} (hv:Value.okWide prog W r b0 60 u) (h:DataW.Trod enc prog W base spare held 60 u d pl):
 ∃(v:Vd) (a:Va),u=.agg #[XJ v.wd,XJ v.lim,.slice a.sa v.ss.length a.sc,.slice a.ta v.tt.length a.tc,XJ v.sw,XJ v.now,XJ v.given,XJ v.births,.slice a.ka v.ks.length a.kc,.slice a.pa v.ps.length a.pc,.slice a.la v.ls.length a.lc,XJ v.ph,.slice a.qa v.qs.length a.qc,.slice a.ma v.ms.length a.mc,XJ v.top,XJ v.at_,XJ v.ro]/\Cb W W.heap.size a v/\Qc v:=by
 obtain⟨cs,rfl,zO⟩:=okWide_struct underlying60 hv;obtain⟨fuel,hf⟩:=h;obtain⟨xs,n0,_,_,_,zC,zB⟩:=DataW.trod_struct underlying60 hf;obtain⟨c0,c1,c2,c3,c4,c5,c6,c7,c8,c9,zH,zE,Ki,zI,zF,zG,zJ,zK⟩:=Wu (l:=cs.toList) (by rw[Array.length_toList,zO,Vm]);obtain⟨x0,x1,x2,x3,x4,rfl⟩:=WT (l:=xs) zC;have zA:(Value.agg cs).cells.toList=[c0,c1,c2,c3,c4,c5,c6,c7,c8,c9,zH,zE,Ki,zI,zF,zG,zJ]:=by rw[←zK];rfl
 have f0:DataW.trod enc prog W base spare held n0 3 [c0]=some x0:=by simpa [zA,DC] using zB 0 _ rfl
 have f1:DataW.trod enc prog W base spare held n0 3 [c1]=some x1:=by simpa [zA,DC] using zB 1 _ rfl
 have f2:DataW.trod enc prog W base spare held n0 38 [c2,c3]=some x2:=by simpa [zA,Wt] using zB 2 _ rfl
 have f3:DataW.trod enc prog W base spare held n0 57 [c4,c5,c6,c7,c8,c9,zH]=some x3:=by simpa [zA,VV] using zB 3 _ rfl
 have f4:DataW.trod enc prog W base spare held n0 58 [zE,Ki,zI,zF,zG,zJ]=some x4:=by simpa [zA,Vn] using zB 4 _ rfl
 obtain⟨wd,h0,_⟩:=Ch f0;obtain⟨lim,h1,_⟩:=Ch f1;obtain⟨sa,sc,ss,ta,tc,tt,h2,h3,zV,zW,b1,b2,b3,b4⟩:=Sq f2;obtain⟨sw,now,given,births,ka,kc,pa,pc,la,lc,ks,ps,ls,h4,h5,h6,h7,h8,h9,zM,zX,hk,hp,hl⟩:=Ou f3;obtain⟨ph,top,at_,ro,qa,qc,ma,mc,qs,ms,zU,zN,zT,zP,zR,zS,hq,hm,b5,b6,b7,b8⟩:=Ov f4
 refine⟨⟨wd,lim,ss,tt,sw,now,given,births,ks,ps,ls,ph,qs,ms,top,at_,ro⟩,⟨sa,sc,ta,tc,ka,kc,pa,pc,la,lc,qa,qc,ma,mc⟩,?_,⟨zV,zW,zX,hq,hm⟩,⟨b1,b2,b3,b4,hk,hp,hl,b5,b6,b7,b8⟩⟩;congr 1;apply Array.toList_inj.1;rw[zK,h0,h1,h2,h3,h4,h5,h6,h7,h8,h9,zM,zU,zN,zT,zP,zR,zS]
end
end
end Go.Proofs.YtpekbmegopfhfaaGreatDoor
