import Derived.Test.YtlhhpofjkgmbeaaGreatDoorX02
import Derived.Deep.DrawnRows
import Derived.Deep.RegionHeld3
import Derived.WideKeyEntry
import Derived.Maps.Views
import Derived.Deep.RegionLaw
set_option maxRecDepth 100000
set_option maxHeartbeats 16000000
namespace Go.Proofs.YtlhhpofjkgmbeaaGreatDoor
open Go.ChangeShapes Go.WideShapes Go.ChangeAt Go.RowKit _root_.Go.Proofs.Tryz
theorem toList_inj{a b:Zi}(h:a.toList=b.toList):a=b:=by rw[ByteArray.toList_eq,ByteArray.toList_eq]at h;cases a;cases b;simp only[Array.toList_inj]at h;rw[h]
theorem BP{a b:Zi}(h:¬a=b):(a.toList==b.toList)=false:=by rw[beq_eq_false_iff_ne];exact fun e=>h (toList_inj e)
theorem Nz(x:List UInt8):∀y,Op.bytesLess x y=true↔x<y:=by
 induction x with
 |nil=>intro y;cases y<;>simp[Op.bytesLess]
 |cons a x ih=>
  intro y;cases y with
  |nil=>simp[Op.bytesLess]
  |cons b y=>have:=ih y;rw[List.cons_lt_cons_iff,←this];simp only[Op.bytesLess];by_cases h1:a<b<;>by_cases h2:a=b<;>simp[h1,h2]
theorem Ch(a:Zi):less a a=false:=by
 unfold less;cases h:Op.bytesLess a.toList a.toList with
 |false=>rfl
 |true=>exact absurd ((Nz _ _).1 h) (List.lt_irrefl _)
theorem Cl{a b c:Zi}(h:less a b=true)(k:less b c=true):less a c=true:=by
 unfold less at *
 rw[Nz]at *
 exact List.lt_trans h k
def CE(ks:List Kd)(s:Zi):Int:=match ks.findIdx? (fun k=>decide (k.sum=s))with
 |some i=>(i:Int)
 |none=> -1
theorem Sh{a:List Kd}{s:Zi}{k:Nat}(d:k<a.length)(h:a[k].sum=s)(b:∀j x,j<k->a[j]?=some x->x.sum≠s):CE a s=k:=by
 have:a.findIdx? (fun k=>decide (k.sum=s))=some k:=by rw[List.findIdx?_eq_some_iff_getElem];refine⟨d,by simpa using h,fun j c=> ?_⟩;simpa using b j _ c (Zv (by omega))
 simp[CE,this]
theorem Qw{a:List Kd}{s:Zi}(b:∀j x,j<a.length->a[j]?=some x->x.sum≠s):CE a s= -1:=by
 have:a.findIdx? (fun k=>decide (k.sum=s))=none:=by rw[List.findIdx?_eq_none_iff];intro x d;obtain⟨j,c,rfl⟩:=List.getElem_of_mem d;simpa using b j _ c (Zv c)
 simp[CE,this]
theorem FT(a:List Kd)(s:Zi):(CE a s= -1/\¬Ax a s)∨∃i k,CE a s=(i:Nat)/\a[i]?=some k/\k.sum=s:=by
 unfold CE;cases h:a.findIdx? (fun k=>decide (k.sum=s))with
 |none=>rw[List.findIdx?_eq_none_iff]at h;exact .inl ⟨rfl,fun⟨u,hu,e⟩=>by simpa [e]using h u hu⟩
 |some i=>rw[List.findIdx?_eq_some_iff_getElem]at h;obtain⟨c,b,_⟩:=h;exact .inr ⟨i,a[i],rfl,Zv c,by simpa using b⟩
theorem FE(t l given ae:Int)(a:Zk)(o:Nat)(P L:Value)(c:List Kd)(s:Zi)(w:Zh)(B:Nat)(f:BH w B a c)(H:B<=w.heap.size)(K:c.length<=1048576):
 Calls prog 78 #[.agg #[Zg t,Zg l,Zg given,Zg ae,.slice a c.length o,P,L],.string s] w fun e C=>e=.returned (Zg (CE c s))/\Zz w C:=by
 have g:Below w.heap.size w (w.alloc (.cells #[Zg t,Zg l,Zg given,Zg ae,.slice a c.length o,P,L] 40)):=Zy;go_enter func78,ntmps78;go_wp2
 go_loop [5] (fun i=>∃k:Nat,k<=c.length/\i=Zg k/\Hid (∀j x,j<k->c[j]?=some x->x.sum≠s)) (fun i=>c.length -(intOf i).toNat)
 case atStart=>exact⟨0,Nat.zero_le _,rfl,fun j x h=>by omega⟩
 case round=>
  obtain⟨k,J,rfl,d⟩:=hrel;by_cases hlt:k<c.length
  ·obtain⟨b,u,y,I,r⟩:=f.at hlt;subst y;have m:Hid (c[k]?=some c[k]):=Zv hlt;obtain⟨p,_,_,_⟩:=r k _ m;clear r f;have E:b<w.heap.size:=by omega
   by_cases he:c[k].sum=s
   ·have G:=Yx he;have z:=Yx (Sh hlt he d.o);have D:w.cell? (Ze b (u+k *4))=some (.string s):=by rw[←he];exact p
    clear p he;go_wp2;go_ret;exact⟨Qm z.o.symm,g⟩
   ·have F:=BP he;have v:Hid (∀j x,j<k+1->c[j]?=some x->x.sum≠s):=by
     intro j x A n;rcases Nat.lt_or_ge j k with q|q
     ·exact d.o j x q n
     ·obtain rfl:j=k:=by omega
      rw[m.o]at n;cases n;exact he
    clear he d m;generalize c[k]=x at *
    go_wp2;exact⟨⟨k+1,by omega,by go_num,v⟩,by simp[intOf];omega⟩
  ·go_wp2;go_ret;exact⟨Qm (Qw (fun j x A=>d.o j x (by omega))).symm,g⟩
section
attribute [local go_sem↓] Go.wp_at_zero Go.wp_at_succ
def Ee(u:Kd)(ra:Zk)(rc:Nat):Value:=.agg #[.string u.sum,Zg u.born,.string u.text,.slice ra u.refs.length rc]
def Holds(W:Zh)(B:Nat)(wd:Int)(ks:List Kd)(f:Lit->Option Value):Prop:=
 ∀s:Zi,(s.size:Int)=wd->(f (keyL s)=none/\¬Ax ks s)∨∃u ra rc,u∈ks/\u.sum=s/\f (keyL s)=some (Ee u ra rc)/\Ad W B ra u.refs
theorem Holds.nil(W:Zh)(B:Nat)(a:Int):Holds W B a [] (fun _=>none):=fun _ _=> .inl ⟨rfl,fun⟨_,h,_⟩=>by cases h⟩
theorem Holds.snoc{W:Zh}{B:Nat}{b:Int}{i:List Kd}{f:Lit->Option Value}(h:Holds W B b i f){x:Kd}{g:Zk}{rc:Nat}(r:(x.sum.size:Int)=b)(q:b<=8)(o:Ad W B g x.refs):Holds W B b (i++[x]) (upd f (keyL x.sum) (Ee x g rc)):=by
 intro s p;by_cases he:keyL s=keyL x.sum
 ·have:s=x.sum:=key_inj he (by omega) (by omega);subst this;exact .inr ⟨x,g,rc,by simp,rfl,Dm _ _ _,o⟩
 ·rw[Dg _ _ he];have j:x.sum≠s:=fun e=>he (by rw[e]);rcases h s p with⟨c,d⟩|⟨u,k,l,c,d,m,n⟩
  ·refine .inl ⟨c,fun⟨u,a,e⟩=> ?_⟩;rcases List.mem_append.1 a with a|a
   ·exact d ⟨u,a,e⟩
   ·simp at a;subst a;exact j e
  ·exact .inr ⟨u,k,l,by simp[c],d,m,n⟩
theorem Kf(w:Zh):(zeroValue 131).run prog w=.ok (.agg #[Zd,Zf,Zd,Zc]) w:=by kernel_rfl
theorem AV.setCell{w:Zh}{K:TypeId}{b n:Nat}{f:Lit->Option Value}(h:AV w K b n f){a:Addr}(e:b≠a.block)(u:Value):AV (w.setCell a u) K b n f:=by obtain⟨D,c,d⟩:=h;exact⟨D,c.setCell e u,d⟩
def FS(wr:Zh)(h:Nat)(m s b t r:Value)(w':Zh):Prop:=
 w'.cell? (Ze (h+1+1+1) 1)=some m/\w'.cell? (Ze (wr.heap.size) 0)=some s/\w'.cell? (Ze (wr.heap.size) 1)=some b/\w'.cell? (Ze (wr.heap.size) 2)=some t/\w'.cell? (Ze (wr.heap.size) 3)=some r
theorem FS.aj{wr c e:Zh}{h:Nat}{m s b t r:Value}(x:FS wr h m s b t r c)(a:Zz c e)(l:h+3<c.heap.size)(d:wr.heap.size<c.heap.size):FS wr h m s b t r e:=by obtain⟨f,g,i,j,k⟩:=x;exact⟨(a.cell (p:=⟨h+1+1+1,1,none⟩) l).trans f,(a.cell (p:=⟨wr.heap.size,0,none⟩) d).trans g,(a.cell (p:=⟨wr.heap.size,1,none⟩) d).trans i,(a.cell (p:=⟨wr.heap.size,2,none⟩) d).trans j,(a.cell (p:=⟨wr.heap.size,3,none⟩) d).trans k⟩
theorem FS.grown{wr e d:Zh}{h q:Nat}{m s b t r:Value}(x:FS wr h m s b t r e)(a:e.grownBy d (some q))(l:h+1+1+1≠q)(c:wr.heap.size≠q):FS wr h m s b t r d:=by obtain⟨f,g,i,j,k⟩:=x;exact⟨a.cell f (by simpa using l),a.cell g (by simpa using c),a.cell i (by simpa using c),a.cell j (by simpa using c),a.cell k (by simpa using c)⟩
theorem OR(l y given ae:Int)(a:Zk)(I:Nat)(P L:Value)(g:List Kd)(w:Zh)(s:BH w w.heap.size a g)(hl:g.length<=1048576)(E:∀k∈g,(k.sum.size:Int)=l)(h8:l<=8):
 Calls prog 153 #[.agg #[Zg l,Zg y,Zg given,Zg ae,.slice a g.length I,P,L]] w fun e t=>∃m f,e=.returned (.agg #[Zg l,.map (some m)])/\(w.heap.size<=m/\m<=w.heap.size+2)/\AV t 190 m g.length f/\Holds w w.heap.size l g f/\Zz w t:=by
 have U:= @run_makeMap prog;go_enter func153,ntmps153;go_wp2
 obtain⟨o,h⟩:∃W,W=((((w.alloc (Obj.cells #[Value.int IntKind.i64 l,Value.int IntKind.i64 y,Value.int IntKind.i64 given,Value.int IntKind.i64 ae,Value.slice a g.length I,P,L] 40)).alloc (Obj.cells #[Value.int IntKind.i64 0,Value.map none] 154)).alloc (Obj.map #[] 0)).alloc (Obj.cells #[Value.int IntKind.i64 l,Value.map (some (w.heap.size+1+1))] 154)):=⟨_,rfl⟩;have Q:Below w.heap.size w o:=by rw[h];exact((((Zy).alloc (by simp) _).alloc (by simp;omega) _).alloc (by simp;omega) _)
 have zB:o.heap.size=w.heap.size+4:=by rw[h];simp
 have R:AV o 190 (w.heap.size+1+1) 0 (fun _=>none):=by have:=AV.new ((w.alloc (Obj.cells #[Value.int IntKind.i64 l,Value.int IntKind.i64 y,Value.int IntKind.i64 given,Value.int IntKind.i64 ae,Value.slice a g.length I,P,L] 40)).alloc (Obj.cells #[Value.int IntKind.i64 0,Value.map none] 154)) 190;rw[h];have h2:=this.aj ((Below.refl _ _).alloc (Zx) (Obj.cells #[Value.int IntKind.i64 l,Value.map (some (w.heap.size+1+1))] 154)) this.lt;simpa using h2
 have s0:o.cell? (Ze (w.heap.size+1+1+1) 0)=some (Zg l):=by rw[h];simp[go_sem]
 have s1:o.cell? (Ze (w.heap.size+1+1+1) 1)=some (.map (some (w.heap.size+1+1))):=by rw[h];simp[go_sem]
 have r0:o.cell? (Ze (w.heap.size+1) 0)=some Zf:=by rw[h];simp[go_sem]
 have r1:o.cell? (Ze (w.heap.size+1) 1)=some (.map none):=by rw[h];simp[go_sem]
 have rf:∀j,o.frozen? ⟨w.heap.size+1,j,none⟩=false:=fun j=>by rw[h];simp[go_sem]
 rw[←h];clear h U
 go_loopw [13] (fun i wr=>∃(k:Nat) (f:Lit->Option Value),k<=g.length/\i=Zg k/\Hid (AV wr 190 (w.heap.size+1+1) k f)/\Hid (Holds w w.heap.size l (g.take k) f)/\o.grownBy wr (some (w.heap.size+1+1))) (fun i _=>g.length -(intOf i).toNat)
 case atStart=>exact⟨0,_,Nat.zero_le _,rfl,R,by rw[List.take_zero];exact Holds.nil w w.heap.size l,DI _ _⟩
 case round=>
  obtain⟨k,f,hk,rfl,J,F,n⟩:=hrel;have r:=Q.grown n (by omega) (by intro j hj;cases hj;omega);have t0:=n.cell s0 (by simp);have t1:=n.cell s1 (by simp);have zC:=n.size;by_cases hlt:k<g.length
  ·obtain⟨b,Y,ha,hb,M⟩:=(s.below r).at hlt;subst ha;have G:=Yx (Zv hlt);obtain⟨c0,c1,c2,ra,rc,c3,_⟩:=M k _ G.o;obtain⟨b',Z,S,_,C⟩:=s.at hlt;cases S;obtain⟨_,_,_,d,c,z,D⟩:=C k _ G.o;have V:d=ra/\c=rc:=by have:=(r.cell (p:=⟨b,Y+k *4+3,none⟩) hb).trans z;rw[c3]at this;simp at this;exact⟨this.1.symm,this.2.symm⟩
   obtain⟨rfl,rfl⟩:=V;have X:=E _ (List.getElem_mem hlt);have zA:b<wr.heap.size:=by omega
   have HR:=Yx D;clear M C D z E s;generalize g[k]=x at *
   go_wp2;have B:Below wr.heap.size wr (wr.alloc (Obj.cells #[Value.string x.sum,Value.int IntKind.i64 x.born,Value.string x.text,Value.slice d x.refs.length c] 131)):=Zy
   have hT:FS wr w.heap.size (.map (some (w.heap.size+1+1))) (.string x.sum) (Zg x.born) (.string x.text) (.slice d x.refs.length c) (wr.alloc (Obj.cells #[Value.string x.sum,Value.int IntKind.i64 x.born,Value.string x.text,Value.slice d x.refs.length c] 131)):=⟨(B.cell (p:=⟨w.heap.size+1+1+1,1,none⟩) (by simp;omega)).trans t1,by simp,by simp,by simp,by simp⟩
   have A:FS wr w.heap.size (.map (some (w.heap.size+1+1))) (.string x.sum) (Zg x.born) (.string x.text) (.slice d x.refs.length c) (wr.alloc (Obj.cells #[Value.string x.sum,Value.int IntKind.i64 x.born,Value.string x.text,Value.slice d x.refs.length c] 131)).drew:=hT
   go_region_held3 (fun t=>t.cell? (Ze (w.heap.size+1+1+1) 1)=some (.map (some (w.heap.size+1+1)))/\t.cell? (Ze (wr.heap.size) 0)=some (.string x.sum)/\t.cell? (Ze (wr.heap.size) 1)=some (Zg x.born)/\t.cell? (Ze (wr.heap.size) 2)=some (.string x.text)/\t.cell? (Ze (wr.heap.size) 3)=some (.slice d x.refs.length c))
    (first|exact K|exact H|exact A)
    (first
    |(go_at_call 154;refine(Ij x.sum _).mono ?_;rintro e N ⟨rfl,u⟩;have H:FS wr w.heap.size (.map (some (w.heap.size+1+1))) (.string x.sum) (Zg x.born) (.string x.text) (.slice d x.refs.length c) N:=FS.aj A u (by simp;omega) (by simp);have q:Below wr.heap.size wr N:=B.drew.trans (u.mono (by simp));obtain⟨w3,hup,hm3,hg3⟩:=(J.o.aj q (by omega)).put keyed underlying152 (val:=Ee x d c) (by unfold maxLen;omega) (EC x.sum);have K:FS wr w.heap.size (.map (some (w.heap.size+1+1))) (.string x.sum) (Zg x.born) (.string x.text) (.slice d x.refs.length c) w3:=FS.grown H hg3 (by simp) (by simp;omega);unfold Ee at hup))
   all_goals
    have T:=Av n (Av (Au _ q) hg3);have HN:Hid (Holds w w.heap.size l (g.take (k+1)) (upd f (keyL x.sum) (Ee x d c))):=by have:=F.o.snoc (rc:=c) X h8 HR.o;rw[List.take_add_one,G.o];exact this
    have O:=Yx hm3;clear hm3 hup H K hg3 q u;go_wp2;exact⟨⟨k+1,_,by omega,by go_num,O,HN,T⟩,by simp[intOf];omega⟩
  ·have p0:=n.cell r0 (by simp);have p1:=n.cell r1 (by simp);have pf:∀j,wr.frozen? ⟨w.heap.size+1,j,none⟩=false:=fun j=>(n.frozen_far ⟨w.heap.size+1,j,none⟩ (by simp;omega) (by simp)).trans (rf j);rw[Zt (by omega)]at F;obtain rfl:k=g.length:=by omega
   go_wp2;refine bodyPost_ret (v:=.agg #[Zg l,.map (some (w.heap.size+1+1))]) (by simp[results,results153,go_sem,p0,p1]) rfl ⟨_,f,rfl,by omega,?_,F.o,?_⟩
   ·exact(AV.setCell (AV.setCell J.o (by simp) _) (by simp) _)
   ·exact(r.setCell (by simp) _).setCell (by simp) _
def FD(b m:Nat)(s:Zi)(v:Value)(w':Zh):Prop:=
 w'.cell? (Ze b 1)=some (.map (some m))/\(Instr.lookup 152 (.map (some m)) (Cm s) true).run prog w'=.ok v w'
theorem FD.of{W a:Zh}{b m n B:Nat}{s:Zi}{f:Lit->Option Value}(e:W.cell? (Ze b 1)=some (.map (some m)))(c:AV W 190 m n f)(d:b<B)(g:m<B)(h:Below B W a):
 FD b m s (.tuple #[(f (keyL s)).getD (.agg #[Zd,Zf,Zd,Zc]),.bool (f (keyL s)).isSome]) a:=
 ⟨(h.cell (p:=⟨b,1,none⟩) d).trans e,(c.aj h g).look_ok keyed underlying152 (Kf _) (EC s)⟩
theorem Hf(J:Int)(m n:Nat)(f:Lit->Option Value)(s:Zi)(w:Zh)(B:AV w 190 m n f)(hs:(s.size:Int)=J)(u:Zi)(q:Int)(t:Zi)(I:Value)(ok:Bool)
 (U:(∃a l c,I=.slice a l c)) (L:(f (keyL s)).getD (.agg #[Zd,Zf,Zd,Zc])=.agg #[.string u,Zg q,.string t,I]) (A:(f (keyL s)).isSome=ok):
 Calls prog 182 #[.agg #[Zg J,.map (some m)],.string s] w fun e k=>e=.returned (.tuple #[.agg #[.string u,Zg q,.string t,I],.bool ok])/\Zz w k:=by
 obtain⟨F,G,H,rfl⟩:=U;have T:=B.lt;have S:∀M N,Zz w ((w.alloc M).alloc N):=fun M N=>(Zy).alloc (by simp) _;go_enter func182,ntmps182;go_wp2;obtain⟨W,i⟩:∃W,W=(w.alloc (Obj.cells #[Value.int IntKind.i64 J,Value.map (some m)] 154)).alloc (Obj.cells #[Value.string ⟨#[]⟩,Value.int IntKind.i64 0,Value.string ⟨#[]⟩,Value.slice none 0 0] 131):=⟨_,rfl⟩;have hz:W.heap.size=w.heap.size+1+1:=by rw[i];simp
 have y:Below w.heap.size w W:=by rw[i];exact S _ _
 have Z:W.cell? (Ze (w.heap.size) 1)=some (.map (some m)):=by rw[i];simp[go_sem]
 have r0:∃v,W.cell? (Ze (w.heap.size+1) 0)=some v:=by rw[i];simp[go_sem]
 have C:∃v,W.cell? (Ze (w.heap.size+1) 1)=some v:=by rw[i];simp[go_sem]
 have D:∃v,W.cell? (Ze (w.heap.size+1) 2)=some v:=by rw[i];simp[go_sem]
 have E:∃v,W.cell? (Ze (w.heap.size+1) 3)=some v:=by rw[i];simp[go_sem]
 have rf:∀j,W.frozen? ⟨w.heap.size+1,j,none⟩=false:=fun j=>by rw[i];simp[go_sem]
 obtain⟨v0,r0⟩:=r0;obtain⟨v1,C⟩:=C;obtain⟨v2,D⟩:=D;obtain⟨v3,E⟩:=E;have K:∀k,Zz W k->FD w.heap.size m s (.tuple #[.agg #[.string u,Zg q,.string t,.slice F G H],.bool ok]) k:=fun k h=>by have:=FD.of (s:=s) Z (B.aj y T) (by omega) (by omega) h;rw[L,A]at this;exact this
 have o:=Yx K;have r:w.heap.size+1<W.heap.size:=by omega
 have zA:w.heap.size<W.heap.size:=by omega
 rw[←i];clear i K L A B hz;go_region_held3 (fun k=>k.cell? (Ze (w.heap.size) 1)=some (.map (some m))/\(Instr.lookup 152 (.map (some m)) (Cm s) true).run prog k=.ok (.tuple #[.agg #[.string u,Zg q,.string t,.slice F G H],.bool ok]) k)
  (first
    |exact o.o _ b
    |exact o.o _ (b.alloc (Zm (Zx) b.size) _)
    |exact o.o _ ((Below.refl _ _).drew.alloc (by simp) _)
    |exact o.o _ (Below.refl _ _).drew
    |exact o.o _ ((((b.setCell (by simp) _).setCell (by simp) _).setCell (by simp) _).setCell (by simp) _)
    |exact o.o _ (b.alloc b.size _))
  (first
    |(go_at_call 154;refine(Ij s W.drew).mono ?_;rintro e g ⟨rfl,d⟩;have b:Below W.heap.size W g:=(Below.refl _ _).drew.trans (d.mono (by simp));have V:=b.size)
    |(go_at_call 154;refine(Ij s (W.alloc _).drew).mono ?_;rintro e g ⟨rfl,d⟩;have b:Below W.heap.size W g:=(Zy).drew.trans (d.mono (by simp));have V:W.heap.size<g.heap.size:=(by have:=d.size;simp at this;omega);have n0:g.cell? (Ze (W.heap.size) 0)=some Zd:=(by rw[d.cell (p:=⟨W.heap.size,0,none⟩) (by simp)];simp[go_sem]);have n1:g.cell? (Ze (W.heap.size) 1)=some Zf:=(by rw[d.cell (p:=⟨W.heap.size,1,none⟩) (by simp)];simp[go_sem]);have n2:g.cell? (Ze (W.heap.size) 2)=some Zd:=(by rw[d.cell (p:=⟨W.heap.size,2,none⟩) (by simp)];simp[go_sem]);have n3:g.cell? (Ze (W.heap.size) 3)=some Zc:=(by rw[d.cell (p:=⟨W.heap.size,3,none⟩) (by simp)];simp[go_sem]);have nf:∀j,g.frozen? ⟨W.heap.size,j,none⟩=false:=(fun j=>by rw[d.frozen (p:=⟨W.heap.size,j,none⟩) (by simp)];simp[go_sem])))
 all_goals
  have O:=(b.cell (p:=⟨w.heap.size+1,0,none⟩) r).trans r0;have P:=(b.cell (p:=⟨w.heap.size+1,1,none⟩) r).trans C;have Q:=(b.cell (p:=⟨w.heap.size+1,2,none⟩) r).trans D;have R:=(b.cell (p:=⟨w.heap.size+1,3,none⟩) r).trans E;have pf:∀j,g.frozen? ⟨w.heap.size+1,j,none⟩=false:=fun j=>(b.frozen (p:=⟨w.heap.size+1,j,none⟩) r).trans (rf j);have z:=y.trans (b.mono (by omega))
  have x:w.heap.size+1<g.heap.size:=by omega
  have X:¬W.heap.size=w.heap.size+1:=by omega
  have Y:¬w.heap.size+1=W.heap.size:=by omega
  clear d o;go_wp2;refine bodyPost_ret (v:=.tuple #[.agg #[.string u,Zg q,.string t,.slice F G H],.bool ok]) (by first|(simp[results,results182,go_sem,O,P,Q,R];done)|(simp[results,results182,go_sem,O,P,Q,R,x];done)) rfl ⟨rfl,?_⟩
  first
   |(have zB:=nf 0;exact((((((((z.setCell (by simp;omega) _).setCell (by simp;omega) _).setCell (by simp;omega) _).setCell (by simp;omega) _).setCell (by simp) _).setCell (by simp) _).setCell (by simp) _).setCell (by simp) _))
   |exact(((((z.setCell (by simp) _).setCell (by simp) _).setCell (by simp) _).setCell (by simp) _).alloc (by simp;omega) _)
theorem VX(a:Int)(m:Nat)(s:Zi)(w:Zh)(b:¬(s.size:Int)=a):
 Calls prog 182 #[.agg #[Zg a,.map (some m)],.string s] w fun e c=>e=.returned (.tuple #[.agg #[Zd,Zf,Zd,Zc],.bool false])/\Zz w c:=by
 have d:((s.size:Int)==a)=false:=by simpa using b
 go_enter func182,ntmps182;go_wp2;refine bodyPost_ret (v:=.tuple #[.agg #[Zd,Zf,Zd,Zc],.bool false]) (by simp[results,results182,go_sem]) rfl ⟨rfl,?_⟩;exact(Zy).alloc (by simp) _
structure Found (ks:List Kd) (s:Zi) (bo:Int) (ok:Bool):Prop where
 no:ok=false->¬Ax ks s
 yes:ok=true->∃x∈ks,x.sum=s/\x.born=bo
theorem Qx(b:Int)(m n:Nat)(f:Lit->Option Value)(j:List Kd)(W:Zh)(B:Nat)(s:Zi)(w:Zh)(d:AV w 190 m n f)(r:Holds W B b j f)(p:∀k∈j,(k.sum.size:Int)=b):
 ∃u l t z A C ok,Found j s l ok/\∀a,Zz w a->Calls prog 182 #[.agg #[Zg b,.map (some m)],.string s] a fun e q=>e=.returned (.tuple #[.agg #[.string u,Zg l,.string t,.slice z A C],.bool ok])/\Zz a q:=by
 by_cases hs:(s.size:Int)=b
 ·rcases r s hs with⟨c,g⟩|⟨x,v,y,c,g,o,_⟩
  ·exact⟨⟨#[]⟩,0,⟨#[]⟩,none,0,0,false,⟨fun _=>g,fun h=>by cases h⟩,fun a i=>Hf b m n f s a (d.aj i d.lt) hs _ _ _ _ _ ⟨_,_,_,rfl⟩ (by rw[c];rfl) (by rw[c];rfl)⟩
  ·exact⟨x.sum,x.born,x.text,v,x.refs.length,y,true,⟨fun h=>by(cases h),fun _=>⟨x,c,g,rfl⟩⟩,fun a i=>Hf b m n f s a (d.aj i d.lt) hs _ _ _ _ _ ⟨_,_,_,rfl⟩ (by rw[o];rfl) (by rw[o];rfl)⟩
 ·exact⟨⟨#[]⟩,0,⟨#[]⟩,none,0,0,false,⟨fun _ ⟨x,hx,e⟩=>hs (by rw[←e];exact p x hx),fun h=>by cases h⟩,fun a _=>VX b m s a hs⟩
theorem IV(b:Int)(m n:Nat)(f:Lit->Option Value)(d:List Kd)(W:Zh)(B:Nat)(s:Zi)(w:Zh)(p:AV w 190 m n f)(o:Holds W B b d f)(l:∀k∈d,(k.sum.size:Int)=b):
 ∃ok,(ok=true↔Ax d s)/\∀a,Zz w a->Calls prog 151 #[.agg #[Zg b,.map (some m)],.string s] a fun e r=>e=.returned (.bool ok)/\Zz a r:=by
 obtain⟨u,z,t,A,C,D,ok,c,j⟩:=Qx b m n f d W B s w p o l;refine⟨ok,⟨fun h=> ?_,fun h=> ?_⟩,fun a q=> ?_⟩
 ·obtain⟨x,y,e,_⟩:=c.yes h;exact⟨x,y,e⟩
 ·cases ok with
  |true=>rfl
  |false=>exact absurd h (c.no rfl)
 ·have g:Below a.heap.size a (a.alloc (.cells #[Zg b,.map (some m)] 154)):=Zy;have v:=Yx (j _ (q.trans (g.mono q.size)));clear j p o l c;go_enter func151,ntmps151;go_wp2_with fail;refine Calls.mono v.o ?_;rintro e E ⟨rfl,i⟩;go_wp2;go_ret;exact⟨rfl,(g.trans (i.mono (by simp))).alloc (by have:=i.size;simp at this;omega) _⟩
end
section
attribute [local go_sem↓] Go.wp_at_zero Go.wp_at_succ
section
open Go.WideElems Go.MapKept Go.ChangeMaps
theorem Il(w:Zh)(b:Nat)(x y:Obj):setBlock (setBlock w b x) b y=setBlock w b y:=by simp[setBlock]
theorem LZ{P:Program}{f:Zh}{t:TypeId}{b:Nat}{d:Array MapEntry}{clock g i:Nat}(val:Value)(c:f.heap[b]?=some (.map d clock))(a:d.findIdx? (fun e=>((e.born:Nat):Int)==((g:Nat):Int))=some i):
 (Instr.entryStore t (.map (some b)) (goInt g) val).run P f=.ok () (setBlock f b (.map (d.modify i (fun e=>{e with val:=val})) clock)):=by
 simp[Instr.entryStore,MapKept.run_getObj_map c,asInt,asIntOf,goInt,a,MapKept.run_setObj_map _ c,Result.andThen,setBlock]
theorem Si{H:Type}{P:Program}{w:Zh}{t k e:TypeId}{R:Value->Option (DataW H×List MemPlace)}{b:Nat}{f:Array MapEntry}{clock:Nat}(K:Maps.Keyed P k)(o:P.underlying t=some (.map k e)){z:Value}
 (A:∀u:Zh,(zeroValue e).run P u=.ok z u) (g:w.heap[b]?=some (.map f clock)) (F:Fit P k R f clock) {key:Value} {I:Lit} (d:keyOf P k key=some I):
 ∃(v0:Value) (st:Nat) (w3:Zh),(Instr.mapEntry t (.map (some b)) key).run P w=.ok (.tuple #[v0,goInt st]) w3/\(Instr.lookup t (.map (some b)) key false).run P w=.ok v0 w/\(Instr.mapUpdate t (.map (some b)) key v0).run P w=.ok () w3/\
  ∀val:Value,∃C,(Instr.entryStore t (.map (some b)) (goInt st) val).run P w3=.ok () C/\(Instr.mapUpdate t (.map (some b)) key val).run P w=.ok () C:=by
 obtain⟨J,B,_⟩:=F.stamped;rcases K.find w d f.toList F.keys with⟨h,i⟩|⟨j,e0,h,i,q⟩
 ·have v:(setBlock w b (.map (f.push ⟨key,z,clock⟩) (clock+1))).heap[b]?=some (.map (f.push ⟨key,z,clock⟩) (clock+1)):=heap_setBlock_same g _;refine⟨z,clock,setBlock w b (.map (f.push ⟨key,z,clock⟩) (clock+1)),?_,?_,?_,fun val=>⟨setBlock w b (.map (f.push ⟨key,val,clock⟩) (clock+1)),?_,?_⟩⟩
  ·simp[Instr.mapEntry,run_underlying o,MapKept.run_getObj_map g,K.check w false d,h,A,MapKept.run_setObj_map _ g,Result.andThen,setBlock]
  ·simp[Instr.lookup,run_underlying o,MapKept.run_getObj_map g,K.check w _ d,h,A,Result.andThen]
  ·simp[Instr.mapUpdate,run_underlying o,MapKept.run_getObj_map g,K.check w false d,h,MapKept.run_setObj_map _ g,Result.andThen,setBlock]
  ·have m:(f.push ⟨key,z,clock⟩).findIdx? (fun e=>((e.born:Nat):Int)==((clock:Nat):Int))=some f.size:=by
    rw[findIdx_arr];have:=findIdx_born (l:=(f.push ⟨key,z,clock⟩).toList) (j:=f.size) (e0:=⟨key,z,clock⟩) (by
     simp only[Array.toList_push,List.map_append,List.map_cons,List.map_nil];refine List.nodup_append.2 ⟨B,by simp,fun a D c E L=> ?_⟩;simp only[List.mem_singleton]at E;obtain⟨x,G,rfl⟩:=List.mem_map.1 D;have:=J x G;omega) (by simp)
    exact this
   have n:(f.push ⟨key,z,clock⟩).modify f.size (fun e=>{e with val:=val})=f.push ⟨key,val,clock⟩:=by apply Array.ext';rw[Array.toList_modify,Array.toList_push,Array.toList_push,←Array.length_toList,modify_last]
   rw[LZ val v m,Il,n]
  ·simp[Instr.mapUpdate,run_underlying o,MapKept.run_getObj_map g,K.check w false d,h,MapKept.run_setObj_map _ g,Result.andThen,setBlock]
 ·have y:f[j]?=some e0:=by simpa using i
  have r:f.modify j (fun e=>{e with key:=key})=f:=by
   apply Array.ext';rw[Array.toList_modify,modify_eq_set _ _ _ _ i];have:({e0 with key:=key}:MapEntry)=e0:=by rw[←q]
   rw[this];exact set_self _ _ _ i
  have p:f.modify j (fun s=>{s with key:=key,val:=e0.val})=f:=by
   apply Array.ext';rw[Array.toList_modify,modify_eq_set _ _ _ _ i];have:({e0 with key:=key,val:=e0.val}:MapEntry)=e0:=by rw[←q]
   rw[this];exact set_self _ _ _ i
  have v:(setBlock w b (.map f clock)).heap[b]?=some (.map f clock):=heap_setBlock_same g _;refine⟨e0.val,e0.born,setBlock w b (.map f clock),?_,?_,?_,fun val=>⟨setBlock w b (.map (f.modify j (fun s=>{s with key:=key,val:=val})) clock),?_,?_⟩⟩
  ·simp[Instr.mapEntry,run_underlying o,MapKept.run_getObj_map g,K.check w false d,h,y,q,K.stays w d,r,MapKept.run_setObj_map _ g,Result.andThen,setBlock]
  ·simp[Instr.lookup,run_underlying o,MapKept.run_getObj_map g,K.check w _ d,h,Result.andThen]
  ·simp[Instr.mapUpdate,run_underlying o,MapKept.run_getObj_map g,K.check w false d,h,y,q,K.stays w d,p,MapKept.run_setObj_map _ g,Result.andThen,setBlock]
  ·have m:f.findIdx? (fun e=>((e.born:Nat):Int)==((e0.born:Nat):Int))=some j:=by rw[findIdx_arr];exact findIdx_born B i
   have n:f.modify j (fun e=>{e with val:=val})=f.modify j (fun s=>{s with key:=key,val:=val}):=by apply Array.ext';rw[Array.toList_modify,Array.toList_modify,modify_eq_set _ _ _ _ i,modify_eq_set _ _ _ _ i,←q]
   rw[LZ val v m,Il,n]
  ·simp[Instr.mapUpdate,run_underlying o,MapKept.run_getObj_map g,K.check w false d,h,y,q,K.stays w d,MapKept.run_setObj_map _ g,Result.andThen,setBlock]
end
def CF(w:Zh)(K:TypeId)(b n c:Nat)(f:Lit->Option Value):Prop:=
 ∃D:DataW Value,w.ownsMap prog K Ni b n D/\(∀kl z,D.atKey kl (.held z)=.held ((f kl).getD z))/\(∀kl,Maps.has D kl=(f kl).isSome)/\Maps.Tidy D/\Maps.size D=c
theorem CF.map{w:Zh}{K:TypeId}{b n c:Nat}{f:Lit->Option Value}(h:CF w K b n c f):AV w K b n f:=let ⟨D,h1,h2,h3,_⟩:=h;⟨D,h1,h2,h3⟩
theorem CF.new(w:Zh)(K:TypeId):CF (w.alloc (.map #[] 0)) K w.heap.size 0 0 (fun _=>none):=
 ⟨.map [],World.ownsMap_made _ _ _ _,fun _ _=>rfl,fun _=>rfl,Maps.tidy_empty,rfl⟩
theorem CF.aj{w a:Zh}{K:TypeId}{b n c:Nat}{f:Lit->Option Value}(h:CF w K b n c f){B:Nat}(k:Below B w a)(j:b<B):CF a K b n c f:=by obtain⟨D,⟨d,clock,e,g⟩,i⟩:=h;exact⟨D,⟨d,clock,(k.block b j).trans e,g⟩,i⟩
theorem CF.lt{w:Zh}{K:TypeId}{b n c:Nat}{f:Lit->Option Value}(h:CF w K b n c f):b<w.heap.size:=h.choose_spec.1.lt
theorem CF.len{w:Zh}{K t e:TypeId}{b n c:Nat}{f:Lit->Option Value}(h:CF w K b n c f)(i:prog.underlying t=some (.map K e))(a:TypeId):(Builtin.len_ #[t] a #[.map (some b)]).run prog w=.ok (Zg c) w:=by obtain⟨D,d,_,_,_,g⟩:=h;rw[←g];exact d.len i a
theorem CF.put{w:Zh}{K t e:TypeId}{b n c:Nat}{f:Lit->Option Value}(h:CF w K b n c f)(p:Maps.Keyed prog K)(B:prog.underlying t=some (.map K e))(v:n<maxLen){k val:Value}{g:Lit}(a:keyOf prog K k=some g):
 ∃i,(Instr.mapUpdate t (.map (some b)) k val).run prog w=.ok () i/\CF i K b (n+1) (if (f g).isSome then c else c+1) (upd f g val)/\w.grownBy i (some b):=by
 obtain⟨D,l,r,m,o,s⟩:=h;obtain⟨i,A,y,u⟩:=l.update p B v a (d:=.held val) (ps:=[]) (val:=val) rfl;have q:=l.isMap;have j:=p.key a;refine⟨i,A,⟨_,y,fun x z=> ?_,fun x=> ?_,o.put j _,?_⟩,u⟩
 ·by_cases hx:x=g
  ·subst hx;rw[Maps.atKey_put_same q j,Dm];rfl
  ·rw[Maps.atKey_put_other hx,Dg _ _ hx];exact r x z
 ·by_cases hx:x=g
  ·subst hx;rw[Maps.has_put_same q j,Dm];rfl
  ·rw[Maps.has_put_other hx,Dg _ _ hx];exact m x
 ·rw[Maps.size_put o,m,s]
theorem CF.bump{w:Zh}{K t e:TypeId}{b n c:Nat}{f:Lit->Option Value}(h:CF w K b n c f)(k:Maps.Keyed prog K)(l:prog.underlying t=some (.map K e))(y:n<maxLen){z:Value}(v:∀u:Zh,(zeroValue e).run prog u=.ok z u){j:Value}{g:Lit}(a:keyOf prog K j=some g)(val:Value):
 ∃o d m,(Instr.mapEntry t (.map (some b)) j).run prog w=.ok (.tuple #[(f g).getD z,goInt o]) d/\(Instr.lookup t (.map (some b)) j false).run prog w=.ok ((f g).getD z) w/\(Instr.lookup t (.map (some b)) j false).run prog d=.ok ((f g).getD z) d/\
  (Instr.entryStore t (.map (some b)) (goInt o) val).run prog d=.ok () m/\CF m K b (n+1) (if (f g).isSome then c else c+1) (upd f g val)/\w.grownBy d (some b)/\w.grownBy m (some b):=by
 have s:=h;obtain⟨D,⟨P,clock,J,F,V,U⟩,Q,R,S,T⟩:=h;obtain⟨v0,o,d,L,x,M,H⟩:=Si k l v J F a;have p:=s.map.look k l (v w) a;rw[x]at p;cases p;obtain⟨m,G,I⟩:=H val;obtain⟨N,r,C,A⟩:=s.put k l y a (val:=(f g).getD z);rw[M]at r;cases r;obtain⟨O,i,E,B⟩:=s.put k l y a (val:=val);rw[I]at i;cases i;have q:=C.map.look k l (v d) a;rw[Dm]at q;exact⟨o,d,m,L,x,q,G,E,A,B⟩
structure MK (ms:Zl) (f:Lit->Option Value) (c:Nat):Prop where
 has:∀l,(f l).isSome=true↔l∈ms.map keyL
 num:∀l v,f l=some v->∃n:Int,v=Zg n/\1<=n/\n<=ms.length
 le:c<=ms.length
 all:c=ms.length↔(ms.map keyL).Nodup
theorem MK.nil:MK [] (fun _=>none) 0:=⟨fun l=>(by simp),fun l v h=>(by simp at h),Zx,(by simp)⟩
theorem MK.get{a:Zl}{f:Lit->Option Value}{c:Nat}(h:MK a f c)(l:Lit):∃n:Int,(f l).getD Zf=Zg n/\0<=n/\n<=a.length/\(0<n↔l∈a.map keyL):=by
 cases hf:f l with
 |none=>refine⟨0,rfl,Int.le_refl _,by omega,?_⟩;have:=h.has l;rw[hf]at this;simp at this ⊢;exact this
 |some v=>obtain⟨n,rfl,d,b⟩:=h.num l v hf;have:=h.has l;rw[hf]at this;exact⟨n,rfl,by omega,b,⟨fun _=>this.1 rfl,fun _=>by omega⟩⟩
theorem MK.snoc{g:Zl}{f:Lit->Option Value}{c:Nat}(h:MK g f c)(x:Zi){n:Int}(t:0<=n)(u:n<=g.length):
 MK (g++[x]) (upd f (keyL x) (Zg (n+1))) (if (f (keyL x)).isSome then c else c+1):=by
 have k:=h.has (keyL x);refine⟨fun l=> ?_,fun l v d=> ?_,?_,?_⟩
 ·by_cases e:l=keyL x
  ·subst e;rw[Dm];simp
  ·rw[Dg _ _ e,h.has l];simp only[List.map_append,List.map_cons,List.map_nil,List.mem_append,List.mem_singleton];exact⟨fun h=> .inl h,fun h=>h.resolve_right e⟩
 ·by_cases e:l=keyL x
  ·subst e;rw[Dm]at d;cases d;exact⟨n+1,rfl,by omega,by simp;omega⟩
  ·rw[Dg _ _ e]at d;obtain⟨m,o,p,s⟩:=h.num l v d;exact⟨m,o,p,by simp;omega⟩
 ·have:=h.le;split<;>simp<;>omega
 ·have r:=h.le;have i:=h.all;rw[List.map_append,List.map_cons,List.map_nil,List.length_append];by_cases hm:keyL x∈g.map keyL
  ·rw[if_pos (k.2 hm)];constructor
   ·intro e;simp at e;omega
   ·intro e;have:=(List.nodup_append.1 e).2.2 _ hm _ (by simp) rfl;cases this
  ·rw[if_neg (fun e=>hm (k.1 e))];constructor
   ·intro e;refine List.nodup_append.2 ⟨i.1 (by simp at e;omega),by simp,fun a q b j e=> ?_⟩;simp at j;subst j;subst e;exact hm q
   ·intro e;have:=i.2 (List.nodup_append.1 e).1;simp;omega
theorem Ir{a:Int}(b:0<=a)(c:a<=2000000000):IntKind.i64.wrap a=a:=by unfold IntKind.wrap;simp[IntKind.signed,IntKind.bits];omega
theorem VY(w:Zh):(zeroValue 3).run prog w=.ok Zf w:=by kernel_rfl
end
structure AB (W:Zh) where
 w:Zh
 h:Below W.heap.size W w
theorem AB.ne(W:Zh):Nonempty (AB W):=⟨⟨W,Below.refl _ _⟩⟩
theorem AB.cell{W:Zh}{b o:Nat}{v:Value}(c:W.cell? (Ze b o)=some v)(a:b<W.heap.size)(n:AB W):n.w.cell? (Ze b o)=some v:=(n.h.cell (p:=⟨b,o,none⟩) a).trans c
theorem AB.size{W:Zh}(n:AB W):W.heap.size<=n.w.heap.size:=n.h.size
def AB.next{W:Zh}(n:AB W){w':Zh}(h:Below n.w.heap.size n.w w'):AB W:=⟨w',n.h.trans (h.mono n.h.size)⟩
theorem Qy{P:Program}{c:Array Oper}{i:Nat}{Q:Exit->Act->Zh->Prop}{a:Act}{w:Zh}(g:P.follows .mixedOrders=true)(f:Region.lexB .any c=true)
 (h:wpQuiet P c (fun d=>∃n:AB w,d=n.w) (fun b=>∀n:AB w,Q .normal b n.w) c.toList a):(Code.region i c true).wp P Q a w:=by
 refine wp_region_quiet (C:=fun d=>∃n:AB w,d=n.w) g f ⟨⟨_,(Below.refl _ _).drew⟩,rfl⟩ ?_;have e:(fun b=>∀d,(∃n:AB w,d=n.w)->Q .normal b d)=(fun b=>∀n:AB w,Q .normal b n.w):=by
  funext b
  exact propext ⟨fun h n=>h _ ⟨n,rfl⟩,fun h _ ⟨n,e⟩=>e▸h n⟩
 rw[e];exact h
theorem AI{P:Program}{l:List Oper}{e:Nat}{Q:Exit->Act->Zh->Prop}{a:Act}{w:Zh}(d:P.follows .mixedOrders=true)(c:Region.lexB .any l.toArray=true)
 (h:wpQuiet P l.toArray (fun f=>∃n:AB w,f=n.w) (fun b=>∀n:AB w,Q .normal b n.w) l a):(Code.region e l.toArray true).wp P Q a w:=
 Qy d c (by simpa using h)
theorem AB.calls{P:Program}{f:FuncId}{args:Array Value}{W:Zh}{v:Value}{n:AB W}(h:Calls P f args n.w fun e b=>e=.returned v/\Below n.w.heap.size n.w b):
 Calls P f args n.w fun e a=>e=.returned v/\∃m:AB W,a=m.w:=
 h.mono fun _ _ ⟨he,hb⟩=>⟨he,n.next hb,rfl⟩
theorem IW(t:Zi)(a:Zl)(b:Int):(AH t a b).size<=maxLen:=by
 unfold AH;split
 ·rename_i h
  have h:=BA h;have c:=h.az;have d:=h.text;have:(ByteArray.mk (BB t a).toArray).size=1+(aw a+t.size):=by show(BB t a).toArray.size=_;simp only[List.size_toArray,BB,List.length_cons,List.length_append,Dl,Array.length_toList];show _+t.size+1=_;omega
  rw[this];unfold maxLen;omega
 ·simp[maxLen]
theorem Qz(w:Zh)(n:Nat)(a:Addr):(w.drewN n).cell? a=w.cell? a:=rfl
theorem QA(w:Zh)(n:Nat):(w.drewN n).heap.size=w.heap.size:=rfl
def VD(w:Zh)(wd:Int)(m:Nat)(ks:List Kd)(s:Zi):Prop:=
 ∃ok,(ok=true↔Ax ks s)/\∀w',Zz w w'->Calls prog 151 #[.agg #[Zg wd,.map (some m)],.string s] w' fun e w''=>e=.returned (.bool ok)/\Zz w' w''
def Ar(P:Prop)(w0 w:Zh)(e:Ending):Prop:=∃b,e=.returned (.bool b)/\(b=true↔P)/\Zz w0 w
theorem Ar.yes{P:Prop}{a w:Zh}(h:P)(b:Zz a w):Ar P a w (.returned (.bool true)):=⟨_,rfl,by simpa using h,b⟩
theorem Ar.no{P:Prop}{a w:Zh}(h:¬P)(b:Zz a w):Ar P a w (.returned (.bool false)):=⟨_,rfl,by simpa using h,b⟩
theorem QB(n:Int)(w:Zh):
 Calls prog 89 #[Zg n] w fun e a=>e=.returned (.bool (decide (1<=n/\n<=8)))/\a=w:=by
 by_cases h1:1<=n
 ·by_cases h2:n<=8
  ·go_enter func89,ntmps89;go_wp2;go_ret;exact⟨Aw (by simp[h1,h2]),rfl⟩
  ·have c:decide (n<=8)=false:=by simpa using h2
   go_enter func89,ntmps89;go_wp2;go_ret;exact⟨rfl,rfl⟩
 ·have b:decide (1<=n)=false:=by simpa using h1
  go_enter func89,ntmps89;go_wp2;go_ret;exact⟨rfl,rfl⟩
theorem Is(k:Kd)(a:Int)(h:1<=a):((Qr k a).size:Int)=a:=by
 have e:∀l:List Int,(strOfNums l).size=l.length:=fun l=>by unfold strOfNums;simp[ByteArray.size]
 unfold Qr Ez;rw[e,Du];omega
theorem Ky(n:Int)(w:Zh):
 Calls prog 62 #[Zg n] w fun e a=>e=.returned (.bool (decide (1<=n/\n<=8)))/\a=w:=by
 by_cases h1:1<=n
 ·by_cases h2:n<=8
  ·go_enter func62,ntmps62;go_wp2;go_ret;exact⟨Aw (by simp[h1,h2]),rfl⟩
  ·have c:decide (n<=8)=false:=by simpa using h2
   go_enter func62,ntmps62;go_wp2;go_ret;exact⟨rfl,rfl⟩
 ·have b:decide (1<=n)=false:=by simpa using h1
  go_enter func62,ntmps62;go_wp2;go_ret;exact⟨rfl,rfl⟩
theorem Lt(s:Zi)(w:Zh):
 Calls prog 154 #[.string s] w fun e a=>e=.returned (.agg (Yw (kB s)))/\Zz w a:=Ij s w
def GI(s:Zi):Obj:=.cells #[.int .u8 (kB s 0),.int .u8 (kB s 1),.int .u8 (kB s 2),.int .u8 (kB s 3),.int .u8 (kB s 4),.int .u8 (kB s 5),.int .u8 (kB s 6),.int .u8 (kB s 7)] 190
theorem R8.one(w:Zh)(s:Zi):R8 (w.alloc (GI s)) (w.heap.size+1) (Za w.heap.size 1 1) [s]:=by
 refine .inr ⟨w.heap.size,0,1,rfl,by omega,fun i t a j b=> ?_⟩;cases i with
 |zero=>
  simp at a;subst a;rw[Nat.zero_mul,Nat.zero_add,Nat.zero_add];unfold GI;rw[World.cell?_alloc_at _ _ _ _ rfl]
  match j,b with
  |0,_|1,_|2,_|3,_|4,_|5,_|6,_|7,_=>rfl
 |succ i=>simp at a
theorem DK.alloc{w:Zh}{base:Nat}{v:Value}{a:Zl}(h:DK w base v a)(o:Obj):DK (w.alloc o) base v a:=h.below (Zy)
section
theorem AV.block{w w':Zh}{K:TypeId}{b n:Nat}{f:Lit->Option Value}(h:AV w K b n f)(g:w'.heap[b]?=w.heap[b]?):AV w' K b n f:=by obtain⟨D,⟨a,clock,c,d⟩,e⟩:=h;exact⟨D,⟨a,clock,g.trans c,d⟩,e⟩
section
open Go.WideElems Go.MapKept Go.ChangeMaps
end
def Gp(E:List (Zi×Zi))(t:Zi):Zl:=E.filterMap (fun p=>if p.1=t then some p.2 else none)
theorem QC(E:List (Zi×Zi))(s r t:Zi):Gp (E++[(s,r)]) t=if s=t then Gp E t++[r]else Gp E t:=by unfold Gp;rw[List.filterMap_append];by_cases h:s=t<;>simp[h]
theorem Sj(E:List (Zi×Zi))(t:Zi):(Gp E t).length<=E.length:=by unfold Gp;exact List.length_filterMap_le _ _
noncomputable def rowV (f:Lit->Option Value) (t:Zi):Value:=(f (keyL t)).getD Zc
structure Lk (w:Zh) (base b n:Nat) (wd:Int) (E:List (Zi×Zi)) (av:List Nat) (f:Lit->Option Value):Prop where
 map:AV w 190 b n f
 row:∀t:Zi,(t.size:Int)=wd->DK w base (rowV f t) (Gp E t)
 apart:∀s t:Zi,(s.size:Int)=wd->(t.size:Int)=wd->s≠t->∀g,Ak (rowV f s)=some g->Ak (rowV f t)≠some g
 cl:∀t:Zi,(t.size:Int)=wd->∀g,Ak (rowV f t)=some g->g∉av
theorem Lk.aj{w d:Zh}{base b n:Nat}{e:Int}{E:List (Zi×Zi)}{a:List Nat}{f:Lit->Option Value}(h:Lk w base b n e E a f)(c:Zz w d):Lk d base b n e E a f:=
 ⟨h.map.aj c h.map.lt,fun t g=>(h.row t g).below c,h.apart,h.cl⟩
theorem Lk.add{wr X:Zh}{base b n:Nat}{A:Int}{E:List (Zi×Zi)}{F:List Nat}{f:Lit->Option Value}(h:Lk wr base b n A E F f)(hb:b<base)(zF:base<=wr.heap.size)(H:∀q∈F,q<wr.heap.size)(C:wr.grownBy X (some b)){s r:Zi}(v:(s.size:Int)=A)(h8:A<=8){T:TypeId}{R:Int}
 (hE:∀W,W.heap[b]?=X.heap[b]? ->∀M,∃N,(Instr.entryStore T (.map (some b)) (goInt R) M).run prog W=.ok () N/\AV N 190 b (n+1) (upd f (keyL s) M)/\W.grownBy N (some b))
 {P:Value} (hx:R8 X X.heap.size P [r]) (hlen:E.length<=1000000) (S:TypeId):
 ∃l m w,(Builtin.append_ #[155,155] S #[rowV f s,P]).run prog X=.ok l m/\(Instr.entryStore T (.map (some b)) (goInt R) l).run prog m=.ok () w/\
  Lk w base b (n+1) A (E++[(s,r)]) F (upd f (keyL s) l)/\Below b wr w/\(∀q∈F,q≠b->w.heap[q]?=wr.heap[q]? /\m.heap[q]?=wr.heap[q]?)/\wr.heap.size<=w.heap.size:=by
 have B:∀t:Zi,(t.size:Int)=A->∀g,Ak (rowV f t)=some g->X.heap[g]?=wr.heap[g]?:=fun t d g c=>by have:=(h.row t d).bj c;exact C.block g this.2 (fun e=>by have:=Option.some.inj e;omega)
 have L:∀t:Zi,(t.size:Int)=A->DK X base (rowV f t) (Gp E t):=fun t d=>(h.row t d).stays C.size (B t d);have zG:=Sj E s;have zI:=C.size;obtain⟨l,m,hr,O,x,zB⟩:=VW X base (rowV f s) (Gp E s) (L s v) P [r] _ hx (by simp;omega) (by omega) S;have zH:=x.size;have U:m.heap[b]?=X.heap[b]?:=x.block b (by omega) (fun e=>by have:=((h.row s v).bj e.symm).1;omega);obtain⟨w,zA,Y,y⟩:=hE m U l;have zC:=y.size
 have j:∀g,Ak l=some g->(Ak (rowV f s)=some g∨g=X.heap.size):=fun g D=>by
  rcases zB with e|e
  ·exact .inl (e▸D)
  ·rw[e]at D;exact .inr (Option.some.inj D).symm
 have i:rowV (upd f (keyL s) l) s=l:=by unfold rowV;rw[Dm];rfl
 have a:∀t:Zi,(t.size:Int)=A->s≠t->rowV (upd f (keyL s) l) t=rowV f t:=fun t d z=>by unfold rowV;rw[Dg];intro e;exact z (key_inj e.symm (by omega) (by omega))
 refine⟨l,m,w,hr,zA,⟨Y,fun t d=> ?_,fun u t G d z g o=> ?_,fun t d g c=> ?_⟩,?_,fun q J K=> ?_,by omega⟩
 ·rw[QC];by_cases e:s=t
  ·subst e;rw[if_pos rfl,i];exact O.stays zC (fun g I=>by
    have:base<=g:=(O.bj I).1;exact y.block g (O.bj I).2 (fun e=>by have:=Option.some.inj e;omega))
  ·rw[if_neg e,a t d e];refine(L t d).stays (by omega) (fun g c=> ?_);have zE:=(h.row t d).bj c;rw[y.block g (by omega) (fun e=>by have:=Option.some.inj e;omega)];exact x.block g (by omega) (fun e2=>h.apart s t v d e g e2.symm c)
 ·by_cases eu:s=u
  ·subst eu;rw[i]at o;rw[a t d z];intro c;rcases j g o with p|p
   ·exact h.apart s t v d z g p c
   ·have:=((h.row t d).bj c).2;omega
  ·rw[a u G eu]at o;by_cases et:s=t
   ·subst et;rw[i];intro c;rcases j g c with p|p
    ·exact h.apart s u v G eu g p o
    ·have:=((h.row u G).bj o).2;omega
   ·rw[a t d et];exact h.apart u t G d z g o
 ·by_cases et:s=t
  ·subst et;rw[i]at c;rcases j g c with p|p
   ·exact h.cl s v g p
   ·intro V;have:=H g V;omega
  ·rw[a t d et]at c;exact h.cl t d g c
 ·have b1:Below b wr X:=(Below.refl _ _).grown C (by omega) (fun k e=>by cases e;exact Zx);have b2:Below b X m:=(Below.refl _ _).grown x (by omega) (fun k e=>by have:=((h.row s v).bj e).1;omega);have b3:Below b m w:=(Below.refl _ _).grown y (by omega) (fun k e=>by cases e;exact Zx);exact(b1.trans b2).trans b3
 ·have Z:=H q J;have Q:m.heap[q]?=wr.heap[q]?:=by rw[x.block q (by omega) (fun e=>h.cl s v q e.symm J),C.block q Z (fun e=>K (Option.some.inj e))]
  exact⟨(y.block q (by omega) (fun e=>K (Option.some.inj e))).trans Q,Q⟩
theorem Lk.new{w:Zh}{base b:Nat}{c:Int}(a:AV w 190 b 0 (fun _=>none)):Lk w base b 0 c [] [] (fun _=>none):=
 ⟨a,fun _ _=> .inl ⟨rfl,rfl⟩,fun _ _ _ _ _ _ h=>(by cases h),fun _ _ _ h=>(by cases h)⟩
theorem Lk.free{w:Zh}{base b n:Nat}{a:Int}{E:List (Zi×Zi)}{d:List Nat}{f:Lit->Option Value}(h:Lk w base b n a E d f):Lk w base b n a E [] f:=⟨h.map,h.row,h.apart,fun _ _ _ _ c=>by cases c⟩
end
section
attribute [local go_sem↓] Go.wp_at_zero Go.wp_at_succ
theorem Aa.same{w d:Zh}{B:Nat}{l:Zj}(h:Aa w B l)(b:d.heap[B]?=w.heap[B]?):Aa d B l:=
 fun j v c=>⟨(World.cell?_of_block (a:=⟨B,j,none⟩) b).trans (h j v c).1,(World.frozen?_of_block (a:=⟨B,j,none⟩) b).trans (h j v c).2⟩
theorem Gq(w:Zh)(o:Obj){b:Nat}(h:b<w.heap.size):(w.alloc o).heap[b]?=w.heap[b]?:=Below.heap_alloc w o b h
theorem ZX{w a:Zh}{B:Nat}{s:Zi}(h:a.heap[B]?=w.heap[B]?)(b:Aa w B (Yv (kB s))):
 a.cell? (Ze B 0)=some (.int .u8 (kB s 0))/\a.cell? (Ze B 1)=some (.int .u8 (kB s 1))/\a.cell? (Ze B 2)=some (.int .u8 (kB s 2))/\a.cell? (Ze B 3)=some (.int .u8 (kB s 3))/\a.cell? (Ze B 4)=some (.int .u8 (kB s 4))/\a.cell? (Ze B 5)=some (.int .u8 (kB s 5))/\a.cell? (Ze B 6)=some (.int .u8 (kB s 6))/\a.cell? (Ze B 7)=some (.int .u8 (kB s 7)):=by
 have:=Aa.same b h;exact⟨(this 0 _ rfl).1,(this 1 _ rfl).1,(this 2 _ rfl).1,(this 3 _ rfl).1,(this 4 _ rfl).1,(this 5 _ rfl).1,(this 6 _ rfl).1,(this 7 _ rfl).1⟩
end
theorem Sk{w:Zh}{b:Nat}{c a given ae:Int}{T P L:Value}(h:Bg w b c a given ae T P L):w.cell? (Ze b 0)=some (Zg c)/\w.cell? (Ze b 1)=some (Zg a)/\w.cell? (Ze b 2)=some (Zg given)/\w.cell? (Ze b 3)=some (Zg ae)/\w.cell? (Ze b 4)=some T/\w.cell? (Ze b 5)=some P/\w.cell? (Ze b 6)=some L:=
 ⟨h.1,h.2.1,h.2.2.1,h.2.2.2.1,h.2.2.2.2.1,h.2.2.2.2.2.1,h.2.2.2.2.2.2.1⟩
def vB(d m:Nat)(O P L:Value):List Nat:=d::m::(O.ownBlock.toList++(P.ownBlock.toList++L.ownBlock.toList))
def QD(base:Nat)(V:List Nat):Prop:=∃m,V[1]?=some m/\m<base+4
def De(w:Zh)(base:Nat)(V:List Nat)(a:Zk)(ss:Zl):Prop:=
 ss=[]∨∃b off,a=some ⟨b,off,none⟩/\b<w.heap.size/\b∉V/\((b<base/\QD base V)∨(base<=b/\∃cur,w.heap[b]?=some (.cells cur 9)))/\∀i s,ss[i]?=some s->w.cell? (Ze b (off+i))=some (.string s)
theorem De.row{w:Zh}{base:Nat}{V:List Nat}{a:Zk}{c:Zl}(h:De w base V a c):Ad w w.heap.size a c:=by
 rcases h with h|⟨b,d,e,f,_,_,g⟩
 ·exact .inl h
 ·exact .inr ⟨b,d,e,f,g⟩
def BQ(w:Zh)(base:Nat)(V:List Nat)(wd:Int)(ks:List Kd)(f:Lit->Option Value):Prop:=
 ∀s:Zi,(s.size:Int)=wd->(f (keyL s)=none/\¬Ax ks s)∨∃u ra rc,u∈ks/\u.sum=s/\f (keyL s)=some (Ee u ra rc)/\De w base V ra u.refs
theorem BQ.of{W w:Zh}{V:List Nat}{k:Int}{j:List Kd}{f:Lit->Option Value}(h:Holds W W.heap.size k j f)(g:Zz W w)(o:∀b∈V,W.heap.size<=b)(t:QD W.heap.size V):BQ w W.heap.size V k j f:=by
 intro s e;rcases h s e with h|⟨u,x,y,l,m,n,d⟩
 ·exact .inl h
 ·refine .inr ⟨u,x,y,l,m,n,?_⟩;rcases d with d|⟨b,c,q,a,r⟩
  ·exact .inl d
  ·exact .inr ⟨b,c,q,Zr a g.size,fun v=>by have:=o b v;omega,.inl ⟨a,t⟩,fun i s e=>(g.cell (p:=⟨b,c+i,none⟩) a).trans (r i s e)⟩
structure Dr (w:Zh) (base d m:Nat) (O P L:Value) (wd now given ae:Int) (ks:List Kd) (ps:List Pd) (ls:List Ld):Prop where
 box:Aa w d [Zg wd,.map (some m),Zg now,Zg given,Zg ae,O,P,L]
 map:∃n f,n<=1000000+ae.toNat/\AV w 190 m n f/\BQ w base (vB d m O P L) wd ks f
 ord:w.ownsRow base 190 8 O ks.length (AA (ks.map (·.sum)))
 ci:w.ownsRow base 137 2 P ps.length (Ab pC ps)
 ck:w.ownsRow base 139 3 L ls.length (Ab lC ls)
 bd:base<=d
 bm:base<=m
 ap:(vB d m O P L).Nodup
theorem BQ.below{w k:Zh}{base:Nat}{V:List Nat}{l:Int}{j:List Kd}{f:Lit->Option Value}(h:BQ w base V l j f)(e:Zz w k):BQ k base V l j f:=by
 intro s g;rcases h s g with h|⟨u,x,y,m,n,o,d⟩
 ·exact .inl h
 ·refine .inr ⟨u,x,y,m,n,o,?_⟩;rcases d with d|⟨b,c,q,a,v,t,r⟩
  ·exact .inl d
  ·exact .inr ⟨b,c,q,Zr a e.size,v,(by rw[e.block b a];exact t),fun i s g=>(e.cell (p:=⟨b,c+i,none⟩) a).trans (r i s g)⟩
theorem Ae{w w':Zh}{base:Nat}{e:TypeId}{size:Nat}{v:Value}{n:Nat}{b:Zj}(h:w.ownsRow base e size v n b)(i:Zz w w'):w'.ownsRow base e size v n b:=by
 refine⟨h.1,?_⟩;rcases h.2 with j|⟨g,c,d,k,f,a,rest⟩
 ·exact .inl j
 ·exact .inr ⟨g,c,d,k,f,(i.block g (Array.getElem?_eq_some_iff.1 a).1).trans a,rest⟩
theorem Dr.below{w j:Zh}{base d m:Nat}{O P L:Value}{k b given ae:Int}{e:List Kd}{i:List Pd}{g:List Ld}(h:Dr w base d m O P L k b given ae e i g)(a:Zz w j):Dr j base d m O P L k b given ae e i g:=by obtain⟨n,f,l,c,o⟩:=h.map;exact⟨h.box.below a,⟨n,f,l,c.aj a c.lt,o.below a⟩,Ae h.ord a,Ae h.ci a,Ae h.ck a,h.bd,h.bm,h.ap⟩
theorem Ac{w:Zh}{base:Nat}{e:TypeId}{size:Nat}{v:Value}{n:Nat}{d:Zj}(h:w.ownsRow base e size v n d){g:Nat}(a:v.ownBlock=some g):base<=g/\g<w.heap.size:=by
 rcases h.2 with⟨rfl,_⟩|⟨j,f,i,rfl,c,b,_⟩
 ·cases a
 ·cases a;exact⟨c,(Array.getElem?_eq_some_iff.1 b).1⟩
theorem NC{w a:Zh}{base B:Nat}{e:TypeId}{size:Nat}{v:Value}{n:Nat}{b:Zj}(h:w.ownsRow base e size v n b)(j:Below B w a)(i:∀g,v.ownBlock=some g->g<B):a.ownsRow base e size v n b:=by
 refine⟨h.1,?_⟩;rcases h.2 with l|⟨g,c,d,rfl,f,k,rest⟩
 ·exact .inl l
 ·exact .inr ⟨g,c,d,rfl,f,(j.block g (i g rfl)).trans k,rest⟩
theorem ZA(w:Zh)(base:Nat)(v:Value)(a:Zl)(x:w.ownsRow base 190 8 v a.length (AA a))(s:Zi)(t:a.length<=1000000)(i:base<=w.heap.size)(k:TypeId):
 ∃g b d,(Builtin.append_ #[155,155] k #[v,Za w.heap.size 1 1]).run prog (w.alloc (GI s))=.ok (Za g (a.length+1) b) d/\d.ownsRow base 190 8 (Za g (a.length+1) b) (a++[s]).length (AA (a++[s]))/\w.grownBy d v.ownBlock/\(v.ownBlock=some g∨g=w.heap.size+1):=by
 obtain⟨z,r,m,n,o⟩:=info_parts JA;have l:=Ae x ((Below.refl _ _).alloc (Zx) (GI s));have p:=R8.one w s;have h:∀j u,(AA [s])[j]?=some u->(w.alloc (GI s)).cell? ((⟨w.heap.size,0,none⟩:Addr).add j)=some u:=by
  rcases p with⟨e,_⟩|⟨g,A,b,e,_,h⟩
  ·cases e
  ·cases e;exact R8.cells h
 obtain⟨B,d,y,f,q,_,c⟩:=run_append_own_at (P:=prog) (w.alloc (GI s)) base 155 k 190 z _ 8 8 underlying155 r m n o rfl (by decide) v a.length (AA a) l ⟨w.heap.size,0,none⟩ 1 1 (AA [s]) (CQ [s]) h (Dh [s]) (by unfold maxLen;omega) (by omega) (by simp;omega);obtain⟨g,b,rfl,_,_⟩:=Cf f (fun e=>by subst e;rcases f.2 with⟨_,t⟩|⟨_,_,_,e,_⟩<;>first|omega|cases e)
 refine⟨g,b,d,y,?_,(World.grownBy_alloc w (GI s) _).trans q,?_⟩
 ·rw[Gh,List.length_append];exact f
 ·rcases c with c|c
  ·exact .inl c.symm
  ·right;simpa [Value.ownBlock]using c
end Go.Proofs.YtlhhpofjkgmbeaaGreatDoor
