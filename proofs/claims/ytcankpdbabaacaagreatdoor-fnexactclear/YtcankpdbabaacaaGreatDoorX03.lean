import Derived.Test.YtcankpdbabaacaaGreatDoorX02
import Derived.Deep.DrawnRows
import Derived.Deep.RegionHeld3
import Derived.WideKeyEntry
import Derived.Maps.Views
import Derived.Deep.RegionLaw
set_option maxRecDepth 100000
set_option maxHeartbeats 16000000
namespace Go.Proofs.YtcankpdbabaacaaGreatDoor
open Go.ChangeShapes Go.WideShapes Go.ChangeAt Go.RowKit _root_.Go.Proofs.Tryz
variable{a W d w wr w':Zh}{b c B n h clock g i base:Nat}{s:Zi}{K e t:TypeId}{m r z v L:Value}{P:Program}{j:List Kd}{V:List Nat}
theorem toList_inj{a b:Zi}(h:a.toList=b.toList):a=b:=by rw[ByteArray.toList_eq,ByteArray.toList_eq]at h;cases a;cases b;simp only[Array.toList_inj]at h;rw[h]
theorem Cd{a b:Zi}(h:¬a=b):(a.toList==b.toList)=false:=by rw[beq_eq_false_iff_ne];exact fun e=>h (toList_inj e)
theorem OB(x:List UInt8):∀y,Op.bytesLess x y=true↔x<y:=by
 induction x with
 |nil=>intro y;cases y<;>simp[Op.bytesLess]
 |cons a x ih=>
  intro y;cases y with
  |nil=>simp[Op.bytesLess]
  |cons b y=>have:=ih y;rw[List.cons_lt_cons_iff,<-this];simp only[Op.bytesLess];by_cases h1:a<b<;>by_cases h2:a=b<;>simp[h1,h2]
theorem Co(a:Zi):less a a=false:=by
 unfold less;cases h:Op.bytesLess a.toList a.toList with
 |false=>rfl
 |true=>exact absurd ((OB _ _).1 h) (List.lt_irrefl _)
theorem Cw{a b c:Zi}(h:less a b=true)(k:less b c=true):less a c=true:=by
 unfold less at *
 rw[OB]at *
 exact List.lt_trans h k
def CU(ks:List Kd)(s:Zi):Int:=match ks.findIdx? (fun k=>decide (k.sum=s))with
 |some i=>(i:Int)
 |none=> -1
theorem Ts{a:List Kd}{k:Nat}(d:k<a.length)(h:a[k].sum=s)(b:∀j x,j<k->a[j]?=some x->x.sum≠s):CU a s=k:=by
 have:a.findIdx? (fun k=>decide (k.sum=s))=some k:=by rw[List.findIdx?_eq_some_iff_getElem];refine⟨d,by simpa using h,fun j c=> ?_⟩;simpa using b j _ c (Zv Yw)
 simp[CU,this]
theorem RD{a:List Kd}(b:∀j x,j<a.length->a[j]?=some x->x.sum≠s):CU a s= -1:=by
 have:a.findIdx? (fun k=>decide (k.sum=s))=none:=by rw[List.findIdx?_eq_none_iff];intro x d;obtain⟨j,c,rfl⟩:=List.getElem_of_mem d;simpa using b j _ c (Zv c)
 simp[CU,this]
theorem Fc(a:List Kd)(s:Zi):(CU a s= -1/\¬Av a s)\/∃i k,CU a s=(i:Nat)/\a[i]?=some k/\k.sum=s:=by
 unfold CU;cases h:a.findIdx? (fun k=>decide (k.sum=s))with
 |none=>rw[List.findIdx?_eq_none_iff]at h;exact .inl ⟨rfl,fun⟨u,hu,e⟩=>by simpa [e]using h u hu⟩
 |some i=>rw[List.findIdx?_eq_some_iff_getElem]at h;obtain⟨c,b,_⟩:=h;exact .inr ⟨i,a[i],rfl,Zv c,by simpa using b⟩
theorem Fp(v n g d:Int)(a:Zk)(q:Nat)(P L:Value)(c:List Kd)(s:Zi)(w:Zh)(B:Nat)(l:By w B a c)(J:B<=w.heap.size)(N:c.length<=1048576):
 Calls prog 50 #[.agg #[Zg v,Zg n,Zg g,Zg d,.slice a c.length q,P,L],.string s] w fun e E=>e=.returned (Zg (CU c s))/\Zz w E:=by
 have m:Below w.heap.size w (w.alloc (.cells #[Zg v,Zg n,Zg g,Zg d,.slice a c.length q,P,L] 40)):=Zy;go_enter func50,ntmps50;go_wp2
 go_loop [5] (fun i=>∃k:Nat,k<=c.length/\i=Zg k/\Hid (∀j x,j<k->c[j]?=some x->x.sum≠s)) (fun i=>c.length -(intOf i).toNat)
 case atStart=>exact⟨0,Nat.zero_le _,rfl,fun j x h=>by omega⟩
 case round=>
  obtain⟨k,M,rfl,f⟩:=hrel;by_cases hlt:k<c.length
  .obtain⟨b,y,A,K,u⟩:=l.at hlt;subst A;have o:Hid (c[k]?=some c[k]):=Zv hlt;obtain⟨r,_,_,_⟩:=u k _ o;clear u l;have G:b<w.heap.size:=Yw
   by_cases he:c[k].sum=s
   .have I:=Yx he;have C:=Yx (Ts hlt he f.o);have F:w.cell? (Ze b (y+k *4))=some (.string s):=by rw[<-he];exact r
    clear r he;go_wp2;go_ret;exact⟨Rl C.o.symm,m⟩
   .have H:=Cd he;have z:Hid (∀j x,j<k+1->c[j]?=some x->x.sum≠s):=by
     intro j x D p;rcases Nat.lt_or_ge j k with t|t
     .exact f.o j x t p
     .obtain rfl:j=k:=Yw
      rw[o.o]at p;cases p;exact he
    clear he f o;generalize c[k]=x at *
    go_wp2;exact⟨⟨k+1,Yw,Yp,z⟩,by simp[intOf];omega⟩
  .go_wp2;go_ret;exact⟨Rl (RD (fun j x D=>f.o j x Yw)).symm,m⟩
section
attribute [local go_sem↓] Go.wp_at_zero Go.wp_at_succ
def CA(u:Kd)(ra:Zk)(rc:Nat):Value:=.agg #[.string u.sum,Zg u.born,.string u.M,.slice ra u.B.length rc]
def Holds(W:Zh)(B:Nat)(wd:Int)(ks:List Kd)(f:Lit->Option Value):Prop:=
 ∀s:Zi,(s.size:Int)=wd->(f (keyL s)=none/\¬Av ks s)\/∃u ra rc,u∈ks/\u.sum=s/\f (keyL s)=some (CA u ra rc)/\Ad W B ra u.B
theorem Holds.nil(W:Zh)(B:Nat)(a:Int):Holds W B a [] (fun _=>none):=fun _ _=> .inl ⟨rfl,fun⟨_,h,_⟩=>by cases h⟩
theorem Holds.snoc{a:Int}{d:List Kd}{f:Lit->Option Value}(h:Holds W B a d f){x:Kd}{ra:Zk}{rc:Nat}(p:(x.sum.size:Int)=a)(o:a<=8)(m:Ad W B ra x.B):Holds W B a (d++[x]) (upd f (keyL x.sum) (CA x ra rc)):=by
 intro s n;by_cases he:keyL s=keyL x.sum
 .have:s=x.sum:=key_inj he Yw Yw;subst this;exact .inr ⟨x,ra,rc,Yv,rfl,DF _ _ _,m⟩
 .rw[Dy _ _ he];have g:x.sum≠s:=fun e=>he (by rw[e]);rcases h s n with⟨b,c⟩|⟨u,i,j,b,c,k,l⟩
  .refine .inl ⟨b,fun⟨u,hu,e⟩=> ?_⟩;rcases List.mem_append.1 hu with hu|hu
   .exact c ⟨u,hu,e⟩
   .simp at hu;subst hu;exact g e
  .exact .inr ⟨u,i,j,by simp[b],c,k,l⟩
theorem KK(w:Zh):(zeroValue 99).run prog w=.ok (.agg #[Zd,Zf,Zd,Zc]) w:=Yt
theorem AT.setCell{f:Lit->Option Value}(h:AT w K b n f){a:Addr}(e:b≠a.block)(u:Value):AT (w.setCell a u) K b n f:=by obtain⟨D,c,d⟩:=h;exact⟨D,c.setCell e u,d⟩
def FS(wr:Zh)(h:Nat)(m s b t r:Value)(w':Zh):Prop:=
 w'.cell? (Ze (h+1+1+1) 1)=some m/\w'.cell? (Ze (wr.heap.size) 0)=some s/\w'.cell? (Ze (wr.heap.size) 1)=some b/\w'.cell? (Ze (wr.heap.size) 2)=some t/\w'.cell? (Ze (wr.heap.size) 3)=some r
theorem FS.ah{c e:Zh}{s b t:Value}(x:FS wr h m s b t r c)(a:Zz c e)(l:h+3<c.heap.size)(d:wr.heap.size<c.heap.size):FS wr h m s b t r e:=by obtain⟨f,g,i,j,k⟩:=x;exact⟨(a.cell (p:=⟨h+1+1+1,1,none⟩) l).trans f,(a.cell (p:=⟨wr.heap.size,0,none⟩) d).trans g,(a.cell (p:=⟨wr.heap.size,1,none⟩) d).trans i,(a.cell (p:=⟨wr.heap.size,2,none⟩) d).trans j,(a.cell (p:=⟨wr.heap.size,3,none⟩) d).trans k⟩
theorem FS.grown{e:Zh}{q:Nat}{s b t:Value}(x:FS wr h m s b t r e)(a:e.grownBy d (some q))(l:h+1+1+1≠q)(c:wr.heap.size≠q):FS wr h m s b t r d:=by obtain⟨f,g,i,j,k⟩:=x;exact⟨a.cell f (by simpa using l),a.cell g (by simpa using c),a.cell i (by simpa using c),a.cell j (by simpa using c),a.cell k (by simpa using c)⟩
theorem PW(n A o d:Int)(a:Zk)(K:Nat)(P L:Value)(h:List Kd)(w:Zh)(u:By w w.heap.size a h)(hl:h.length<=1048576)(G:∀k∈h,(k.sum.size:Int)=n)(h8:n<=8):
 Calls prog 144 #[.agg #[Zg n,Zg A,Zg o,Zg d,.slice a h.length K,P,L]] w fun e y=>∃m f,e=.returned (.agg #[Zg n,.map (some m)])/\(w.heap.size<=m/\m<=w.heap.size+2)/\AT y 183 m h.length f/\Holds w w.heap.size n h f/\Zz w y:=by
 have X:= @run_makeMap prog;go_enter func144,ntmps144;go_wp2
 obtain⟨r,l⟩:∃W,W=((((w.alloc (Obj.cells #[Value.int IntKind.i64 n,Value.int IntKind.i64 A,Value.int IntKind.i64 o,Value.int IntKind.i64 d,Value.slice a h.length K,P,L] 40)).alloc (Obj.cells #[Value.int IntKind.i64 0,Value.map none] 121)).alloc (Obj.map #[] 0)).alloc (Obj.cells #[Value.int IntKind.i64 n,Value.map (some (w.heap.size+1+1))] 121)):=⟨_,rfl⟩;have S:Below w.heap.size w r:=by rw[l];exact((((Zy).alloc Yv _).alloc Yu _).alloc Yu _)
 have zE:r.heap.size=w.heap.size+4:=by rw[l];simp
 have T:AT r 183 (w.heap.size+1+1) 0 (fun _=>none):=by have:=AT.new ((w.alloc (Obj.cells #[Value.int IntKind.i64 n,Value.int IntKind.i64 A,Value.int IntKind.i64 o,Value.int IntKind.i64 d,Value.slice a h.length K,P,L] 40)).alloc (Obj.cells #[Value.int IntKind.i64 0,Value.map none] 121)) 183;rw[l];have h2:=this.ah ((Below.refl _ _).alloc (Zx) (Obj.cells #[Value.int IntKind.i64 n,Value.map (some (w.heap.size+1+1))] 121)) this.lt;simpa using h2
 have s0:r.cell? (Ze (w.heap.size+1+1+1) 0)=some (Zg n):=by rw[l];simp[go_sem]
 have s1:r.cell? (Ze (w.heap.size+1+1+1) 1)=some (.map (some (w.heap.size+1+1))):=by rw[l];simp[go_sem]
 have r0:r.cell? (Ze (w.heap.size+1) 0)=some Zf:=by rw[l];simp[go_sem]
 have r1:r.cell? (Ze (w.heap.size+1) 1)=some (.map none):=by rw[l];simp[go_sem]
 have rf:∀j,r.frozen? ⟨w.heap.size+1,j,none⟩=false:=fun j=>by rw[l];simp[go_sem]
 rw[<-l];clear l X
 go_loopw [13] (fun i wr=>∃(k:Nat) (f:Lit->Option Value),k<=h.length/\i=Zg k/\Hid (AT wr 183 (w.heap.size+1+1) k f)/\Hid (Holds w w.heap.size n (h.take k) f)/\r.grownBy wr (some (w.heap.size+1+1))) (fun i _=>h.length -(intOf i).toNat)
 case atStart=>exact⟨0,_,Nat.zero_le _,rfl,T,by rw[List.take_zero];exact Holds.nil w w.heap.size n,Ee _ _⟩
 case round=>
  obtain⟨k,f,hk,rfl,M,H,q⟩:=hrel;have t:=S.grown q Yw (by intro j hj;cases hj;omega);have t0:=q.cell s0 Yv;have t1:=q.cell s1 Yv;have zF:=q.size;by_cases hlt:k<h.length
  .obtain⟨b,zA,ha,hb,O⟩:=(u.below t).at hlt;subst ha;have I:=Yx (Zv hlt);obtain⟨c0,c1,c2,ra,rc,c3,_⟩:=O k _ I.o;obtain⟨b',zB,U,_,E⟩:=u.at hlt;cases U;obtain⟨_,_,_,g,c,B,F⟩:=E k _ I.o;have Y:g=ra/\c=rc:=by have:=(t.cell (p:=⟨b,zA+k *4+3,none⟩) hb).trans B;rw[c3]at this;simp at this;exact⟨this.1.symm,this.2.symm⟩
   obtain⟨rfl,rfl⟩:=Y;have Z:=G _ (List.getElem_mem hlt);have zC:b<wr.heap.size:=Yw
   have HR:=Yx F;clear O E F B G u;generalize h[k]=x at *
   go_wp2;have D:Below wr.heap.size wr (wr.alloc (Obj.cells #[Value.string x.sum,Value.int IntKind.i64 x.born,Value.string x.M,Value.slice g x.B.length c] 99)):=Zy
   have hT:FS wr w.heap.size (.map (some (w.heap.size+1+1))) (.string x.sum) (Zg x.born) (.string x.M) (.slice g x.B.length c) (wr.alloc (Obj.cells #[Value.string x.sum,Value.int IntKind.i64 x.born,Value.string x.M,Value.slice g x.B.length c] 99)):=⟨(D.cell (p:=⟨w.heap.size+1+1+1,1,none⟩) Yu).trans t1,Yv,Yv,Yv,Yv⟩
   have C:FS wr w.heap.size (.map (some (w.heap.size+1+1))) (.string x.sum) (Zg x.born) (.string x.M) (.slice g x.B.length c) (wr.alloc (Obj.cells #[Value.string x.sum,Value.int IntKind.i64 x.born,Value.string x.M,Value.slice g x.B.length c] 99)).drew:=hT
   go_region_held3 (fun y=>y.cell? (Ze (w.heap.size+1+1+1) 1)=some (.map (some (w.heap.size+1+1)))/\y.cell? (Ze (wr.heap.size) 0)=some (.string x.sum)/\y.cell? (Ze (wr.heap.size) 1)=some (Zg x.born)/\y.cell? (Ze (wr.heap.size) 2)=some (.string x.M)/\y.cell? (Ze (wr.heap.size) 3)=some (.slice g x.B.length c))
    (first|exact N|exact J|exact C)
    (first
    |(go_at_call 145;refine(Fy x.sum _).mono ?_;rintro e Q ⟨rfl,z⟩;have J:FS wr w.heap.size (.map (some (w.heap.size+1+1))) (.string x.sum) (Zg x.born) (.string x.M) (.slice g x.B.length c) Q:=FS.ah C z Yu Yv;have s:Below wr.heap.size wr Q:=D.drew.trans (z.mono Yv);obtain⟨w3,hup,hm3,hg3⟩:=(M.o.ah s Yw).put keyed underlying119 (val:=CA x g c) Yq (CP x.sum);have N:FS wr w.heap.size (.map (some (w.heap.size+1+1))) (.string x.sum) (Zg x.born) (.string x.M) (.slice g x.B.length c) w3:=FS.grown J hg3 Yv Yu;unfold CA at hup))
   all_goals
    have V:=Aw q (Aw (Aq _ s) hg3);have HN:Hid (Holds w w.heap.size n (h.take (k+1)) (upd f (keyL x.sum) (CA x g c))):=by have:=H.o.snoc (rc:=c) Z h8 HR.o;rw[List.take_add_one,I.o];exact this
    have R:=Yx hm3;clear hm3 hup J N hg3 s z;go_wp2;exact⟨⟨k+1,_,Yw,Yp,R,HN,V⟩,by simp[intOf];omega⟩
  .have p0:=q.cell r0 Yv;have p1:=q.cell r1 Yv;have pf:∀j,wr.frozen? ⟨w.heap.size+1,j,none⟩=false:=fun j=>(q.frozen_far ⟨w.heap.size+1,j,none⟩ Yu Yv).trans (rf j);rw[Zt Yw]at H;obtain rfl:k=h.length:=Yw
   go_wp2;refine bodyPost_ret (v:=.agg #[Zg n,.map (some (w.heap.size+1+1))]) (by simp[results,results144,go_sem,p0,p1]) rfl ⟨_,f,rfl,Yw,?_,H.o,?_⟩
   .exact(AT.setCell (AT.setCell M.o Yv _) Yv _)
   .exact(t.setCell Yv _).setCell Yv _
def FD(b m:Nat)(s:Zi)(v:Value)(w':Zh):Prop:=
 w'.cell? (Ze b 1)=some (.map (some m))/\(Instr.lookup 119 (.map (some m)) (BU s) true).run prog w'=.ok v w'
theorem FD.of{m:Nat}{f:Lit->Option Value}(e:W.cell? (Ze b 1)=some (.map (some m)))(c:AT W 183 m n f)(d:b<B)(g:m<B)(h:Below B W a):
 FD b m s (.tuple #[(f (keyL s)).getD (.agg #[Zd,Zf,Zd,Zc]),.bool (f (keyL s)).isSome]) a:=
 ⟨(h.cell (p:=⟨b,1,none⟩) d).trans e,(c.ah h g).look_ok keyed underlying119 (KK _) (CP s)⟩
theorem Fz(J:Int)(m n:Nat)(f:Lit->Option Value)(s:Zi)(w:Zh)(B:AT w 183 m n f)(hs:(s.size:Int)=J)(u:Zi)(q:Int)(t:Zi)(I:Value)(ok:Bool)(U:(∃a l c,I=.slice a l c))(L:(f (keyL s)).getD (.agg #[Zd,Zf,Zd,Zc])=.agg #[.string u,Zg q,.string t,I])(A:(f (keyL s)).isSome=ok):
 Calls prog 164 #[.agg #[Zg J,.map (some m)],.string s] w fun e k=>e=.returned (.tuple #[.agg #[.string u,Zg q,.string t,I],.bool ok])/\Zz w k:=by
 obtain⟨F,G,H,rfl⟩:=U;have T:=B.lt;have S:∀M N,Zz w ((w.alloc M).alloc N):=fun M N=>(Zy).alloc Yv _;go_enter func164,ntmps164;go_wp2;obtain⟨W,i⟩:∃W,W=(w.alloc (Obj.cells #[Value.int IntKind.i64 J,Value.map (some m)] 121)).alloc (Obj.cells #[Value.string ⟨#[]⟩,Value.int IntKind.i64 0,Value.string ⟨#[]⟩,Value.slice none 0 0] 99):=⟨_,rfl⟩;have hz:W.heap.size=w.heap.size+1+1:=by rw[i];simp
 have y:Below w.heap.size w W:=by rw[i];exact S _ _
 have Z:W.cell? (Ze (w.heap.size) 1)=some (.map (some m)):=by rw[i];simp[go_sem]
 have r0:∃v,W.cell? (Ze (w.heap.size+1) 0)=some v:=by rw[i];simp[go_sem]
 have C:∃v,W.cell? (Ze (w.heap.size+1) 1)=some v:=by rw[i];simp[go_sem]
 have D:∃v,W.cell? (Ze (w.heap.size+1) 2)=some v:=by rw[i];simp[go_sem]
 have E:∃v,W.cell? (Ze (w.heap.size+1) 3)=some v:=by rw[i];simp[go_sem]
 have rf:∀j,W.frozen? ⟨w.heap.size+1,j,none⟩=false:=fun j=>by rw[i];simp[go_sem]
 obtain⟨v0,r0⟩:=r0;obtain⟨v1,C⟩:=C;obtain⟨v2,D⟩:=D;obtain⟨v3,E⟩:=E;have K:∀k,Zz W k->FD w.heap.size m s (.tuple #[.agg #[.string u,Zg q,.string t,.slice F G H],.bool ok]) k:=fun k h=>by have:=FD.of (s:=s) Z (B.ah y T) Yw Yw h;rw[L,A]at this;exact this
 have o:=Yx K;have r:w.heap.size+1<W.heap.size:=Yw
 have zA:w.heap.size<W.heap.size:=Yw
 rw[<-i];clear i K L A B hz;go_region_held3 (fun k=>k.cell? (Ze (w.heap.size) 1)=some (.map (some m))/\(Instr.lookup 119 (.map (some m)) (BU s) true).run prog k=.ok (.tuple #[.agg #[.string u,Zg q,.string t,.slice F G H],.bool ok]) k)
  (first
    |exact o.o _ b
    |exact o.o _ (b.alloc (Zm (Zx) b.size) _)
    |exact o.o _ ((Below.refl _ _).drew.alloc Yv _)
    |exact o.o _ (Below.refl _ _).drew
    |exact o.o _ ((((b.setCell Yv _).setCell Yv _).setCell Yv _).setCell Yv _)
    |exact o.o _ (b.alloc b.size _))
  (first
    |(go_at_call 145;refine(Fy s W.drew).mono ?_;rintro e g ⟨rfl,d⟩;have b:Below W.heap.size W g:=(Below.refl _ _).drew.trans (d.mono Yv);have V:=b.size)
    |(go_at_call 145;refine(Fy s (W.alloc _).drew).mono ?_;rintro e g ⟨rfl,d⟩;have b:Below W.heap.size W g:=(Zy).drew.trans (d.mono Yv);have V:W.heap.size<g.heap.size:=(by have:=d.size;simp at this;omega);have n0:g.cell? (Ze (W.heap.size) 0)=some Zd:=(by rw[d.cell (p:=⟨W.heap.size,0,none⟩) Yv];simp[go_sem]);have n1:g.cell? (Ze (W.heap.size) 1)=some Zf:=(by rw[d.cell (p:=⟨W.heap.size,1,none⟩) Yv];simp[go_sem]);have n2:g.cell? (Ze (W.heap.size) 2)=some Zd:=(by rw[d.cell (p:=⟨W.heap.size,2,none⟩) Yv];simp[go_sem]);have n3:g.cell? (Ze (W.heap.size) 3)=some Zc:=(by rw[d.cell (p:=⟨W.heap.size,3,none⟩) Yv];simp[go_sem]);have nf:∀j,g.frozen? ⟨W.heap.size,j,none⟩=false:=(fun j=>by rw[d.frozen (p:=⟨W.heap.size,j,none⟩) Yv];simp[go_sem])))
 all_goals
  have O:=(b.cell (p:=⟨w.heap.size+1,0,none⟩) r).trans r0;have P:=(b.cell (p:=⟨w.heap.size+1,1,none⟩) r).trans C;have Q:=(b.cell (p:=⟨w.heap.size+1,2,none⟩) r).trans D;have R:=(b.cell (p:=⟨w.heap.size+1,3,none⟩) r).trans E;have pf:∀j,g.frozen? ⟨w.heap.size+1,j,none⟩=false:=fun j=>(b.frozen (p:=⟨w.heap.size+1,j,none⟩) r).trans (rf j);have z:=y.trans (b.mono Yw)
  have x:w.heap.size+1<g.heap.size:=Yw
  have X:¬W.heap.size=w.heap.size+1:=Yw
  have Y:¬w.heap.size+1=W.heap.size:=Yw
  clear d o;go_wp2;refine bodyPost_ret (v:=.tuple #[.agg #[.string u,Zg q,.string t,.slice F G H],.bool ok]) (by first|(simp[results,results164,go_sem,O,P,Q,R];done)|(simp[results,results164,go_sem,O,P,Q,R,x];done)) rfl ⟨rfl,?_⟩
  first
   |(have zB:=nf 0;exact((((((((z.setCell Yu _).setCell Yu _).setCell Yu _).setCell Yu _).setCell Yv _).setCell Yv _).setCell Yv _).setCell Yv _))
   |exact(((((z.setCell Yv _).setCell Yv _).setCell Yv _).setCell Yv _).alloc Yu _)
theorem XU(a:Int)(m:Nat)(s:Zi)(w:Zh)(b:¬(s.size:Int)=a):
 Calls prog 164 #[.agg #[Zg a,.map (some m)],.string s] w fun e c=>e=.returned (.tuple #[.agg #[Zd,Zf,Zd,Zc],.bool false])/\Zz w c:=by
 have d:((s.size:Int)==a)=false:=by simpa using b
 go_enter func164,ntmps164;go_wp2;refine bodyPost_ret (v:=.tuple #[.agg #[Zd,Zf,Zd,Zc],.bool false]) (by simp[results,results164,go_sem]) rfl ⟨rfl,?_⟩;exact(Zy).alloc Yv _
structure Found (ks:List Kd) (s:Zi) (bo:Int) (ok:Bool):Prop where
 no:ok=false->¬Av ks s
 yes:ok=true->∃x∈ks,x.sum=s/\x.born=bo
theorem RE(b:Int)(m n:Nat)(f:Lit->Option Value)(j:List Kd)(W:Zh)(B:Nat)(s:Zi)(w:Zh)(d:AT w 183 m n f)(r:Holds W B b j f)(p:∀k∈j,(k.sum.size:Int)=b):
 ∃u l t y z A ok,Found j s l ok/\∀a,Zz w a->Calls prog 164 #[.agg #[Zg b,.map (some m)],.string s] a fun e q=>e=.returned (.tuple #[.agg #[.string u,Zg l,.string t,.slice y z A],.bool ok])/\Zz a q:=by
 by_cases hs:(s.size:Int)=b
 .rcases r s hs with⟨c,g⟩|⟨x,ra,v,c,g,o,_⟩
  .exact⟨⟨#[]⟩,0,⟨#[]⟩,none,0,0,false,⟨fun _=>g,fun h=>by cases h⟩,fun a i=>Fz b m n f s a (d.ah i d.lt) hs _ _ _ _ _ ⟨_,_,_,rfl⟩ (by rw[c];rfl) (by rw[c];rfl)⟩
  .exact⟨x.sum,x.born,x.M,ra,x.B.length,v,true,⟨fun h=>by(cases h),fun _=>⟨x,c,g,rfl⟩⟩,fun a i=>Fz b m n f s a (d.ah i d.lt) hs _ _ _ _ _ ⟨_,_,_,rfl⟩ (by rw[o];rfl) (by rw[o];rfl)⟩
 .exact⟨⟨#[]⟩,0,⟨#[]⟩,none,0,0,false,⟨fun _ ⟨x,hx,e⟩=>hs (by rw[<-e];exact p x hx),fun h=>by cases h⟩,fun a _=>XU b m s a hs⟩
theorem MN(b:Int)(m n:Nat)(f:Lit->Option Value)(d:List Kd)(W:Zh)(B:Nat)(s:Zi)(w:Zh)(p:AT w 183 m n f)(o:Holds W B b d f)(l:∀k∈d,(k.sum.size:Int)=b):
 ∃ok,(ok=true↔Av d s)/\∀a,Zz w a->Calls prog 236 #[.agg #[Zg b,.map (some m)],.string s] a fun e r=>e=.returned (.bool ok)/\Zz a r:=by
 obtain⟨u,z,t,A,C,D,ok,c,j⟩:=RE b m n f d W B s w p o l;refine⟨ok,⟨fun h=> ?_,fun h=> ?_⟩,fun a q=> ?_⟩
 .obtain⟨x,y,e,_⟩:=c.yes h;exact⟨x,y,e⟩
 .cases ok with
  |true=>rfl
  |false=>exact absurd h (c.no rfl)
 .have g:Below a.heap.size a (a.alloc (.cells #[Zg b,.map (some m)] 121)):=Zy;have v:=Yx (j _ (q.trans (g.mono q.size)));clear j p o l c;go_enter func236,ntmps236;go_wp2_with fail;refine Calls.mono v.o ?_;rintro e E ⟨rfl,i⟩;go_wp2;go_ret;exact⟨rfl,(g.trans (i.mono Yv)).alloc (by have:=i.size;simp at this;omega) _⟩
end
section
attribute [local go_sem↓] Go.wp_at_zero Go.wp_at_succ
section
open Go.WideElems Go.MapKept Go.ChangeMaps
theorem II(w:Zh)(b:Nat)(x y:Obj):setBlock (setBlock w b x) b y=setBlock w b y:=by simp[setBlock]
theorem MO{f:Zh}{d:Array MapEntry}(val:Value)(c:f.heap[b]?=some (.map d clock))(a:d.findIdx? (fun e=>((e.born:Nat):Int)==((g:Nat):Int))=some i):
 (Instr.entryStore t (.map (some b)) (goInt g) val).run P f=.ok () (setBlock f b (.map (d.modify i (fun e=>{e with val:=val})) clock)):=by
 simp[Instr.entryStore,MapKept.run_getObj_map c,asInt,asIntOf,goInt,a,MapKept.run_setObj_map _ c,Result.andThen,setBlock]
theorem Tt{H:Type}{k:TypeId}{R:Value->Option (DataW H×List MemPlace)}{f:Array MapEntry}(K:Maps.Keyed P k)(o:P.underlying t=some (.map k e))(A:∀u:Zh,(zeroValue e).run P u=.ok z u)(g:w.heap[b]?=some (.map f clock))(F:Fit P k R f clock){key:Value}{I:Lit}(d:keyOf P k key=some I):
 ∃(v0:Value) (st:Nat) (w3:Zh),(Instr.mapEntry t (.map (some b)) key).run P w=.ok (.tuple #[v0,goInt st]) w3/\(Instr.lookup t (.map (some b)) key false).run P w=.ok v0 w/\(Instr.mapUpdate t (.map (some b)) key v0).run P w=.ok () w3/\
  ∀val:Value,∃C,(Instr.entryStore t (.map (some b)) (goInt st) val).run P w3=.ok () C/\(Instr.mapUpdate t (.map (some b)) key val).run P w=.ok () C:=by
 obtain⟨J,B,_⟩:=F.stamped;rcases K.find w d f.toList F.keys with⟨h,i⟩|⟨j,e0,h,i,q⟩
 .have v:(setBlock w b (.map (f.push ⟨key,z,clock⟩) (clock+1))).heap[b]?=some (.map (f.push ⟨key,z,clock⟩) (clock+1)):=heap_setBlock_same g _;refine⟨z,clock,setBlock w b (.map (f.push ⟨key,z,clock⟩) (clock+1)),?_,?_,?_,fun val=>⟨setBlock w b (.map (f.push ⟨key,val,clock⟩) (clock+1)),?_,?_⟩⟩
  .simp[Instr.mapEntry,run_underlying o,MapKept.run_getObj_map g,K.check w false d,h,A,MapKept.run_setObj_map _ g,Result.andThen,setBlock]
  .simp[Instr.lookup,run_underlying o,MapKept.run_getObj_map g,K.check w _ d,h,A,Result.andThen]
  .simp[Instr.mapUpdate,run_underlying o,MapKept.run_getObj_map g,K.check w false d,h,MapKept.run_setObj_map _ g,Result.andThen,setBlock]
  .have m:(f.push ⟨key,z,clock⟩).findIdx? (fun e=>((e.born:Nat):Int)==((clock:Nat):Int))=some f.size:=by
    rw[findIdx_arr];have:=findIdx_born (l:=(f.push ⟨key,z,clock⟩).toList) (j:=f.size) (e0:=⟨key,z,clock⟩) (by
     simp only[Array.toList_push,List.map_append,List.map_cons,List.map_nil];refine List.nodup_append.2 ⟨B,Yv,fun a D c E L=> ?_⟩;simp only[List.mem_singleton]at E;obtain⟨x,G,rfl⟩:=List.mem_map.1 D;have:=J x G;omega) Yv
    exact this
   have n:(f.push ⟨key,z,clock⟩).modify f.size (fun e=>{e with val:=val})=f.push ⟨key,val,clock⟩:=by apply Array.ext';rw[Array.toList_modify,Array.toList_push,Array.toList_push,<-Array.length_toList,modify_last]
   rw[MO val v m,II,n]
  .simp[Instr.mapUpdate,run_underlying o,MapKept.run_getObj_map g,K.check w false d,h,MapKept.run_setObj_map _ g,Result.andThen,setBlock]
 .have y:f[j]?=some e0:=by simpa using i
  have r:f.modify j (fun e=>{e with key:=key})=f:=by
   apply Array.ext';rw[Array.toList_modify,modify_eq_set _ _ _ _ i];have:({e0 with key:=key}:MapEntry)=e0:=by rw[<-q]
   rw[this];exact set_self _ _ _ i
  have p:f.modify j (fun s=>{s with key:=key,val:=e0.val})=f:=by
   apply Array.ext';rw[Array.toList_modify,modify_eq_set _ _ _ _ i];have:({e0 with key:=key,val:=e0.val}:MapEntry)=e0:=by rw[<-q]
   rw[this];exact set_self _ _ _ i
  have v:(setBlock w b (.map f clock)).heap[b]?=some (.map f clock):=heap_setBlock_same g _;refine⟨e0.val,e0.born,setBlock w b (.map f clock),?_,?_,?_,fun val=>⟨setBlock w b (.map (f.modify j (fun s=>{s with key:=key,val:=val})) clock),?_,?_⟩⟩
  .simp[Instr.mapEntry,run_underlying o,MapKept.run_getObj_map g,K.check w false d,h,y,q,K.stays w d,r,MapKept.run_setObj_map _ g,Result.andThen,setBlock]
  .simp[Instr.lookup,run_underlying o,MapKept.run_getObj_map g,K.check w _ d,h,Result.andThen]
  .simp[Instr.mapUpdate,run_underlying o,MapKept.run_getObj_map g,K.check w false d,h,y,q,K.stays w d,p,MapKept.run_setObj_map _ g,Result.andThen,setBlock]
  .have m:f.findIdx? (fun e=>((e.born:Nat):Int)==((e0.born:Nat):Int))=some j:=by rw[findIdx_arr];exact findIdx_born B i
   have n:f.modify j (fun e=>{e with val:=val})=f.modify j (fun s=>{s with key:=key,val:=val}):=by apply Array.ext';rw[Array.toList_modify,Array.toList_modify,modify_eq_set _ _ _ _ i,modify_eq_set _ _ _ _ i,<-q]
   rw[MO val v m,II,n]
  .simp[Instr.mapUpdate,run_underlying o,MapKept.run_getObj_map g,K.check w false d,h,y,q,K.stays w d,MapKept.run_setObj_map _ g,Result.andThen,setBlock]
end
def AV(w:Zh)(K:TypeId)(b n c:Nat)(f:Lit->Option Value):Prop:=
 ∃D:DataW Value,w.ownsMap prog K Oh b n D/\(∀kl z,D.atKey kl (.held z)=.held ((f kl).getD z))/\(∀kl,Maps.has D kl=(f kl).isSome)/\Maps.Tidy D/\Maps.size D=c
theorem AV.map{f:Lit->Option Value}(h:AV w K b n c f):AT w K b n f:=let ⟨D,h1,h2,h3,_⟩:=h;⟨D,h1,h2,h3⟩
theorem AV.new(w:Zh)(K:TypeId):AV (w.alloc (.map #[] 0)) K w.heap.size 0 0 (fun _=>none):=
 ⟨.map [],World.ownsMap_made _ _ _ _,fun _ _=>rfl,fun _=>rfl,Maps.tidy_empty,rfl⟩
theorem AV.ah{f:Lit->Option Value}(h:AV w K b n c f)(k:Below B w a)(j:b<B):AV a K b n c f:=by obtain⟨D,⟨d,clock,e,g⟩,i⟩:=h;exact⟨D,⟨d,clock,(k.block b j).trans e,g⟩,i⟩
theorem AV.lt{f:Lit->Option Value}(h:AV w K b n c f):b<w.heap.size:=h.choose_spec.1.lt
theorem AV.len{f:Lit->Option Value}(h:AV w K b n c f)(i:prog.underlying t=some (.map K e))(a:TypeId):(Builtin.len_ #[t] a #[.map (some b)]).run prog w=.ok (Zg c) w:=by obtain⟨D,d,_,_,_,g⟩:=h;rw[<-g];exact d.len i a
theorem AV.put{f:Lit->Option Value}(h:AV w K b n c f)(p:Maps.Keyed prog K)(B:prog.underlying t=some (.map K e))(v:n<maxLen){k val:Value}{g:Lit}(a:keyOf prog K k=some g):
 ∃i,(Instr.mapUpdate t (.map (some b)) k val).run prog w=.ok () i/\AV i K b (n+1) (if (f g).isSome then c else c+1) (upd f g val)/\w.grownBy i (some b):=by
 obtain⟨D,l,r,m,o,s⟩:=h;obtain⟨i,A,y,u⟩:=l.update p B v a (d:=.held val) (ps:=[]) (val:=val) rfl;have q:=l.isMap;have j:=p.key a;refine⟨i,A,⟨_,y,fun x z=> ?_,fun x=> ?_,o.put j _,?_⟩,u⟩
 .by_cases hx:x=g
  .subst hx;rw[Maps.atKey_put_same q j,DF];rfl
  .rw[Maps.atKey_put_other hx,Dy _ _ hx];exact r x z
 .by_cases hx:x=g
  .subst hx;rw[Maps.has_put_same q j,DF];rfl
  .rw[Maps.has_put_other hx,Dy _ _ hx];exact m x
 .rw[Maps.size_put o,m,s]
theorem AV.gx{f:Lit->Option Value}(h:AV w K b n c f)(k:Maps.Keyed prog K)(l:prog.underlying t=some (.map K e))(y:n<maxLen)(v:∀u:Zh,(zeroValue e).run prog u=.ok z u){j:Value}{g:Lit}(a:keyOf prog K j=some g)(val:Value):
 ∃o d m,(Instr.mapEntry t (.map (some b)) j).run prog w=.ok (.tuple #[(f g).getD z,goInt o]) d/\(Instr.lookup t (.map (some b)) j false).run prog w=.ok ((f g).getD z) w/\(Instr.lookup t (.map (some b)) j false).run prog d=.ok ((f g).getD z) d/\
  (Instr.entryStore t (.map (some b)) (goInt o) val).run prog d=.ok () m/\AV m K b (n+1) (if (f g).isSome then c else c+1) (upd f g val)/\w.grownBy d (some b)/\w.grownBy m (some b):=by
 have s:=h;obtain⟨D,⟨O,clock,J,F,U,T⟩,P,Q,R,S⟩:=h;obtain⟨v0,o,d,L,x,hu,H⟩:=Tt k l v J F a;have p:=s.map.look k l (v w) a;rw[x]at p;cases p;obtain⟨m,G,I⟩:=H val;obtain⟨M,r,C,A⟩:=s.put k l y a (val:=(f g).getD z);rw[hu]at r;cases r;obtain⟨N,i,E,B⟩:=s.put k l y a (val:=val);rw[I]at i;cases i;have q:=C.map.look k l (v d) a;rw[DF]at q;exact⟨o,d,m,L,x,q,G,E,A,B⟩
structure MK (ms:Zl) (f:Lit->Option Value) (c:Nat):Prop where
 has:∀l,(f l).isSome=true↔l∈ms.map keyL
 V:∀l v,f l=some v->∃n:Int,v=Zg n/\1<=n/\n<=ms.length
 le:c<=ms.length
 all:c=ms.length↔(ms.map keyL).Nodup
theorem MK.nil:MK [] (fun _=>none) 0:=⟨fun l=>Yv,fun l v h=>(by simp at h),Zx,Yv⟩
theorem MK.get{a:Zl}{f:Lit->Option Value}(h:MK a f c)(l:Lit):∃n:Int,(f l).getD Zf=Zg n/\0<=n/\n<=a.length/\(0<n↔l∈a.map keyL):=by
 cases hf:f l with
 |none=>refine⟨0,rfl,Int.le_refl _,Yw,?_⟩;have:=h.has l;rw[hf]at this;simp at this |-;exact this
 |some v=>obtain⟨n,rfl,d,b⟩:=h.V l v hf;have:=h.has l;rw[hf]at this;exact⟨n,rfl,Yw,b,⟨fun _=>this.1 rfl,fun _=>by omega⟩⟩
theorem MK.snoc{g:Zl}{f:Lit->Option Value}(h:MK g f c)(x:Zi){n:Int}(t:0<=n)(u:n<=g.length):
 MK (g++[x]) (upd f (keyL x) (Zg (n+1))) (if (f (keyL x)).isSome then c else c+1):=by
 have k:=h.has (keyL x);refine⟨fun l=> ?_,fun l v d=> ?_,?_,?_⟩
 .by_cases e:l=keyL x
  .subst e;rw[DF];simp
  .rw[Dy _ _ e,h.has l];simp only[List.map_append,List.map_cons,List.map_nil,List.mem_append,List.mem_singleton];exact⟨fun h=> .inl h,fun h=>h.resolve_right e⟩
 .by_cases e:l=keyL x
  .subst e;rw[DF]at d;cases d;exact⟨n+1,rfl,Yw,Yu⟩
  .rw[Dy _ _ e]at d;obtain⟨m,o,p,s⟩:=h.V l v d;exact⟨m,o,p,Yu⟩
 .have:=h.le;split<;>simp<;>omega
 .have r:=h.le;have i:=h.all;rw[List.map_append,List.map_cons,List.map_nil,List.length_append];by_cases hm:keyL x∈g.map keyL
  .rw[if_pos (k.2 hm)];constructor
   .intro e;simp at e;omega
   .intro e;have:=(List.nodup_append.1 e).2.2 _ hm _ Yv rfl;cases this
  .rw[if_neg (fun e=>hm (k.1 e))];constructor
   .intro e;refine List.nodup_append.2 ⟨i.1 (by simp at e;omega),Yv,fun a q b j e=> ?_⟩;simp at j;subst j;subst e;exact hm q
   .intro e;have:=i.2 (List.nodup_append.1 e).1;simp;omega
theorem Hi{a:Int}(b:0<=a)(c:a<=2000000000):IntKind.i64.wrap a=a:=by unfold IntKind.wrap;simp[IntKind.signed,IntKind.bits];omega
theorem GZ(w:Zh):(zeroValue 3).run prog w=.ok Zf w:=Yt
end
structure Ar (W:Zh) where
 w:Zh
 h:Below W.heap.size W w
theorem Ar.ne(W:Zh):Nonempty (Ar W):=⟨⟨W,Below.refl _ _⟩⟩
theorem Ar.cell{o:Nat}(c:W.cell? (Ze b o)=some v)(a:b<W.heap.size)(n:Ar W):n.w.cell? (Ze b o)=some v:=(n.h.cell (p:=⟨b,o,none⟩) a).trans c
theorem Ar.size(n:Ar W):W.heap.size<=n.w.heap.size:=n.h.size
def Ar.next{W:Zh}(n:Ar W){w':Zh}(h:Below n.w.heap.size n.w w'):Ar W:=⟨w',n.h.trans (h.mono n.h.size)⟩
theorem RF{c:Array Oper}{Q:Exit->Act->Zh->Prop}{a:Act}(g:P.follows .mixedOrders=true)(f:Region.lexB .any c=true)(h:wpQuiet P c (fun d=>∃n:Ar w,d=n.w) (fun b=>∀n:Ar w,Q .normal b n.w) c.toList a):(Code.region i c true).wp P Q a w:=by
 refine wp_region_quiet (C:=fun d=>∃n:Ar w,d=n.w) g f ⟨⟨_,(Below.refl _ _).drew⟩,rfl⟩ ?_;have e:(fun b=>∀d,(∃n:Ar w,d=n.w)->Q .normal b d)=(fun b=>∀n:Ar w,Q .normal b n.w):=by
  funext b
  exact propext ⟨fun h n=>h _ ⟨n,rfl⟩,fun h _ ⟨n,e⟩=>e▸h n⟩
 rw[e];exact h
theorem Au{l:List Oper}{e:Nat}{Q:Exit->Act->Zh->Prop}{a:Act}(d:P.follows .mixedOrders=true)(c:Region.lexB .any l.toArray=true)(h:wpQuiet P l.toArray (fun f=>∃n:Ar w,f=n.w) (fun b=>∀n:Ar w,Q .normal b n.w) l a):(Code.region e l.toArray true).wp P Q a w:=
 RF d c (by simpa using h)
theorem Ar.calls{f:FuncId}{args:Array Value}{n:Ar W}(h:Calls P f args n.w fun e b=>e=.returned v/\Below n.w.heap.size n.w b):
 Calls P f args n.w fun e a=>e=.returned v/\∃m:Ar W,a=m.w:=
 h.mono fun _ _ ⟨he,hb⟩=>⟨he,n.next hb,rfl⟩
theorem JA(t:Zi)(a:Zl)(b:Int):(AJ t a b).size<=maxLen:=by
 unfold AJ;split
 .rename_i h
  have h:=BL h;have c:=h.ba;have d:=h.M;have:(ByteArray.mk (BE t a).toArray).size=1+(ax a+t.size):=by show(BE t a).toArray.size=_;simp only[List.size_toArray,BE,List.length_cons,List.length_append,DE,Array.length_toList];show _+t.size+1=_;omega
  rw[this];unfold maxLen;omega
 .simp[maxLen]
theorem RG(w:Zh)(n:Nat)(a:Addr):(w.drewN n).cell? a=w.cell? a:=rfl
theorem RH(w:Zh)(n:Nat):(w.drewN n).heap.size=w.heap.size:=rfl
def Ap(P:Prop)(w0 w:Zh)(e:Ending):Prop:=∃b,e=.returned (.bool b)/\(b=true↔P)/\Zz w0 w
theorem Ap.yes{P:Prop}(h:P)(b:Zz a w):Ap P a w (.returned (.bool true)):=⟨_,rfl,by simpa using h,b⟩
theorem Ap.no{P:Prop}(h:¬P)(b:Zz a w):Ap P a w (.returned (.bool false)):=⟨_,rfl,by simpa using h,b⟩
theorem RI(n:Int)(w:Zh):
 Calls prog 60 #[Zg n] w fun e a=>e=.returned (.bool (decide (1<=n/\n<=8)))/\a=w:=by
 by_cases h1:1<=n
 .by_cases h2:n<=8
  .go_enter func60,ntmps60;go_wp2;go_ret;exact⟨Ax (by simp[h1,h2]),rfl⟩
  .have c:decide (n<=8)=false:=by simpa using h2
   go_enter func60,ntmps60;go_wp2;go_ret;exact⟨rfl,rfl⟩
 .have b:decide (1<=n)=false:=by simpa using h1
  go_enter func60,ntmps60;go_wp2;go_ret;exact⟨rfl,rfl⟩
theorem IU(k:Kd)(a:Int)(h:1<=a):((Rr k a).size:Int)=a:=by
 have e:∀l:List Int,(strOfNums l).size=l.length:=fun l=>by unfold strOfNums;simp[ByteArray.size]
 unfold Rr EN;rw[e,DQ];omega
theorem Lp(n:Int)(w:Zh):
 Calls prog 40 #[Zg n] w fun e a=>e=.returned (.bool (decide (1<=n/\n<=8)))/\a=w:=by
 by_cases h1:1<=n
 .by_cases h2:n<=8
  .go_enter func40,ntmps40;go_wp2;go_ret;exact⟨Ax (by simp[h1,h2]),rfl⟩
  .have c:decide (n<=8)=false:=by simpa using h2
   go_enter func40,ntmps40;go_wp2;go_ret;exact⟨rfl,rfl⟩
 .have b:decide (1<=n)=false:=by simpa using h1
  go_enter func40,ntmps40;go_wp2;go_ret;exact⟨rfl,rfl⟩
theorem Mg(s:Zi)(w:Zh):
 Calls prog 145 #[.string s] w fun e a=>e=.returned (.agg (Ym (kB s)))/\Zz w a:=Fy s w
def Hj(s:Zi):Obj:=.cells #[.int .u8 (kB s 0),.int .u8 (kB s 1),.int .u8 (kB s 2),.int .u8 (kB s 3),.int .u8 (kB s 4),.int .u8 (kB s 5),.int .u8 (kB s 6),.int .u8 (kB s 7)] 183
theorem R8.one(w:Zh)(s:Zi):R8 (w.alloc (Hj s)) (w.heap.size+1) (Za w.heap.size 1 1) [s]:=by
 refine .inr ⟨w.heap.size,0,1,rfl,Yw,fun i t a j b=> ?_⟩;cases i with
 |zero=>
  simp at a;subst a;rw[Nat.zero_mul,Nat.zero_add,Nat.zero_add];unfold Hj;rw[World.cell?_alloc_at _ _ _ _ rfl]
  match j,b with
  |0,_|1,_|2,_|3,_|4,_|5,_|6,_|7,_=>rfl
 |succ i=>simp at a
theorem Eh.alloc{a:Zl}(h:Eh w base v a)(o:Obj):Eh (w.alloc o) base v a:=h.below (Zy)
section
theorem AT.block{f:Lit->Option Value}(h:AT w K b n f)(g:w'.heap[b]?=w.heap[b]?):AT w' K b n f:=by obtain⟨D,⟨a,clock,c,d⟩,e⟩:=h;exact⟨D,⟨a,clock,g.trans c,d⟩,e⟩
section
open Go.WideElems Go.MapKept Go.ChangeMaps
end
def GO(E:List (Zi×Zi))(t:Zi):Zl:=E.filterMap (fun p=>if p.1=t then some p.2 else none)
theorem RJ(E:List (Zi×Zi))(s r t:Zi):GO (E++[(s,r)]) t=if s=t then GO E t++[r]else GO E t:=by unfold GO;rw[List.filterMap_append];by_cases h:s=t<;>simp[h]
theorem Tu(E:List (Zi×Zi))(t:Zi):(GO E t).length<=E.length:=by unfold GO;exact List.length_filterMap_le _ _
noncomputable def rowV (f:Lit->Option Value) (t:Zi):Value:=(f (keyL t)).getD Zc
structure Lk (w:Zh) (base b n:Nat) (wd:Int) (E:List (Zi×Zi)) (av:List Nat) (f:Lit->Option Value):Prop where
 map:AT w 183 b n f
 row:∀t:Zi,(t.size:Int)=wd->Eh w base (rowV f t) (GO E t)
 apart:∀s t:Zi,(s.size:Int)=wd->(t.size:Int)=wd->s≠t->∀g,Af (rowV f s)=some g->Af (rowV f t)≠some g
 co:∀t:Zi,(t.size:Int)=wd->∀g,Af (rowV f t)=some g->g∉av
theorem Lk.ah{e:Int}{E:List (Zi×Zi)}{a:List Nat}{f:Lit->Option Value}(h:Lk w base b n e E a f)(c:Zz w d):Lk d base b n e E a f:=
 ⟨h.map.ah c h.map.lt,fun t g=>(h.row t g).below c,h.apart,h.co⟩
theorem Lk.add{X:Zh}{C:Int}{E:List (Zi×Zi)}{H:List Nat}{f:Lit->Option Value}(h:Lk wr i b n C E H f)(hb:b<i)(zG:i<=wr.heap.size)(I:∀q∈H,q<wr.heap.size)(F:wr.grownBy X (some b)){r:Zi}(x:(s.size:Int)=C)(h8:C<=8){T:TypeId}{S:Int}(hE:∀W,W.heap[b]?=X.heap[b]? ->∀N,∃O,(Instr.entryStore T (.map (some b)) (goInt S) N).run prog W=.ok () O/\AT O 183 b (n+1) (upd f (keyL s) N)/\W.grownBy O (some b)){Q:Value}(hx:R8 X X.heap.size Q [r])(hlen:E.length<=1000000)(U:TypeId):
 ∃m o y,(Builtin.append_ #[122,122] U #[rowV f s,Q]).run prog X=.ok m o/\(Instr.entryStore T (.map (some b)) (goInt S) m).run prog o=.ok () y/\
  Lk y i b (n+1) C (E++[(s,r)]) H (upd f (keyL s) m)/\Below b wr y/\(∀q∈H,q≠b->y.heap[q]?=wr.heap[q]? /\o.heap[q]?=wr.heap[q]?)/\wr.heap.size<=y.heap.size:=by
 have D:∀t:Zi,(t.size:Int)=C->∀g,Af (rowV f t)=some g->X.heap[g]?=wr.heap[g]?:=fun t d g c=>by have:=(h.row t d).S c;exact F.block g this.2 (fun e=>by have:=Option.some.inj e;omega)
 have M:∀t:Zi,(t.size:Int)=C->Eh X i (rowV f t) (GO E t):=fun t d=>(h.row t d).stays F.size (D t d);have zH:=Tu E s;have zJ:=F.size;obtain⟨m,o,hr,P,z,zC⟩:=XT X i (rowV f s) (GO E s) (M s x) Q [r] _ hx Yu Yw U;have zI:=z.size;have V:o.heap[b]?=X.heap[b]?:=z.block b Yw (fun e=>by have:=((h.row s x).S e.symm).1;omega);obtain⟨y,zB,Z,A⟩:=hE o V m;have zE:=A.size
 have l:∀g,Af m=some g->(Af (rowV f s)=some g\/g=X.heap.size):=fun g G=>by
  rcases zC with e|e
  .exact .inl (e▸G)
  .rw[e]at G;exact .inr (Option.some.inj G).symm
 have j:rowV (upd f (keyL s) m) s=m:=by unfold rowV;rw[DF];rfl
 have a:∀t:Zi,(t.size:Int)=C->s≠t->rowV (upd f (keyL s) m) t=rowV f t:=fun t d B=>by unfold rowV;rw[Dy];intro e;exact B (key_inj e.symm Yw Yw)
 refine⟨m,o,y,hr,zB,⟨Z,fun t d=> ?_,fun u t hu d B g p=> ?_,fun t d g c=> ?_⟩,?_,fun q K L=> ?_,Yw⟩
 .rw[RJ];by_cases e:s=t
  .subst e;rw[if_pos rfl,j];exact P.stays zE (fun g J=>by
    have:i<=g:=(P.S J).1;exact A.block g (P.S J).2 (fun e=>by have:=Option.some.inj e;omega))
  .rw[if_neg e,a t d e];refine(M t d).stays Yw (fun g c=> ?_);have zF:=(h.row t d).S c;rw[A.block g Yw (fun e=>by have:=Option.some.inj e;omega)];exact z.block g Yw (fun e2=>h.apart s t x d e g e2.symm c)
 .by_cases eu:s=u
  .subst eu;rw[j]at p;rw[a t d B];intro c;rcases l g p with v|v
   .exact h.apart s t x d B g v c
   .have:=((h.row t d).S c).2;omega
  .rw[a u hu eu]at p;by_cases et:s=t
   .subst et;rw[j];intro c;rcases l g c with v|v
    .exact h.apart s u x hu eu g v p
    .have:=((h.row u hu).S p).2;omega
   .rw[a t d et];exact h.apart u t hu d B g p
 .by_cases et:s=t
  .subst et;rw[j]at c;rcases l g c with v|v
   .exact h.co s x g v
   .intro Y;have:=I g Y;omega
  .rw[a t d et]at c;exact h.co t d g c
 .have b1:Below b wr X:=(Below.refl _ _).grown F Yw (fun k e=>by cases e;exact Zx);have b2:Below b X o:=(Below.refl _ _).grown z Yw (fun k e=>by have:=((h.row s x).S e).1;omega);have b3:Below b o y:=(Below.refl _ _).grown A Yw (fun k e=>by cases e;exact Zx);exact(b1.trans b2).trans b3
 .have zA:=I q K;have R:o.heap[q]?=wr.heap[q]?:=by rw[z.block q Yw (fun e=>h.co s x q e.symm K),F.block q zA (fun e=>L (Option.some.inj e))]
  exact⟨(A.block q Yw (fun e=>L (Option.some.inj e))).trans R,R⟩
theorem Lk.new{a:Nat}{d:Int}(c:AT w 183 b 0 (fun _=>none)):Lk w a b 0 d [] [] (fun _=>none):=
 ⟨c,fun _ _=> .inl ⟨rfl,rfl⟩,fun _ _ _ _ _ _ h=>(by cases h),fun _ _ _ h=>(by cases h)⟩
end
section
attribute [local go_sem↓] Go.wp_at_zero Go.wp_at_succ
theorem Aa.same{l:Zj}(h:Aa w B l)(b:d.heap[B]?=w.heap[B]?):Aa d B l:=
 fun j v c=>⟨(World.cell?_of_block (a:=⟨B,j,none⟩) b).trans (h j v c).1,(World.frozen?_of_block (a:=⟨B,j,none⟩) b).trans (h j v c).2⟩
theorem GP(w:Zh)(o:Obj)(h:b<w.heap.size):(w.alloc o).heap[b]?=w.heap[b]?:=Below.heap_alloc w o b h
theorem ZY(h:a.heap[B]?=w.heap[B]?)(b:Aa w B (Yl (kB s))):
 a.cell? (Ze B 0)=some (.int .u8 (kB s 0))/\a.cell? (Ze B 1)=some (.int .u8 (kB s 1))/\a.cell? (Ze B 2)=some (.int .u8 (kB s 2))/\a.cell? (Ze B 3)=some (.int .u8 (kB s 3))/\a.cell? (Ze B 4)=some (.int .u8 (kB s 4))/\a.cell? (Ze B 5)=some (.int .u8 (kB s 5))/\a.cell? (Ze B 6)=some (.int .u8 (kB s 6))/\a.cell? (Ze B 7)=some (.int .u8 (kB s 7)):=by
 have:=Aa.same b h;exact⟨(this 0 _ rfl).1,(this 1 _ rfl).1,(this 2 _ rfl).1,(this 3 _ rfl).1,(this 4 _ rfl).1,(this 5 _ rfl).1,(this 6 _ rfl).1,(this 7 _ rfl).1⟩
end
theorem FX{e d c a:Int}{T P:Value}(h:AZ w b e d c a T P L):w.cell? (Ze b 0)=some (Zg e)/\w.cell? (Ze b 1)=some (Zg d)/\w.cell? (Ze b 2)=some (Zg c)/\w.cell? (Ze b 3)=some (Zg a)/\w.cell? (Ze b 4)=some T/\w.cell? (Ze b 5)=some P/\w.cell? (Ze b 6)=some L:=
 ⟨h.1,h.2.1,h.2.2.1,h.2.2.2.1,h.2.2.2.2.1,h.2.2.2.2.2.1,h.2.2.2.2.2.2.1⟩
def vB(d m:Nat)(O P L:Value):List Nat:=d::m::(O.ownBlock.toList++(P.ownBlock.toList++L.ownBlock.toList))
def RK(base:Nat)(V:List Nat):Prop:=∃m,V[1]?=some m/\m<base+4
def DG(w:Zh)(base:Nat)(V:List Nat)(a:Zk)(ss:Zl):Prop:=
 ss=[]\/∃b off,a=some ⟨b,off,none⟩/\b<w.heap.size/\b∉V/\((b<base/\RK base V)\/(base<=b/\∃cur,w.heap[b]?=some (.cells cur 9)))/\∀i s,ss[i]?=some s->w.cell? (Ze b (off+i))=some (.string s)
theorem DG.row{a:Zk}{d:Zl}(h:DG w c V a d):Ad w w.heap.size a d:=by
 rcases h with h|⟨b,e,f,g,_,_,i⟩
 .exact .inl h
 .exact .inr ⟨b,e,f,g,i⟩
def BH(w:Zh)(base:Nat)(V:List Nat)(wd:Int)(ks:List Kd)(f:Lit->Option Value):Prop:=
 ∀s:Zi,(s.size:Int)=wd->(f (keyL s)=none/\¬Av ks s)\/∃u ra rc,u∈ks/\u.sum=s/\f (keyL s)=some (CA u ra rc)/\DG w base V ra u.B
theorem BH.of{k:Int}{f:Lit->Option Value}(h:Holds W W.heap.size k j f)(g:Zz W w)(o:∀b∈V,W.heap.size<=b)(t:RK W.heap.size V):BH w W.heap.size V k j f:=by
 intro s e;rcases h s e with h|⟨u,ra,x,l,m,n,d⟩
 .exact .inl h
 .refine .inr ⟨u,ra,x,l,m,n,?_⟩;rcases d with d|⟨b,c,q,a,r⟩
  .exact .inl d
  .exact .inr ⟨b,c,q,Zr a g.size,fun v=>by have:=o b v;omega,.inl ⟨a,t⟩,fun i s e=>(g.cell (p:=⟨b,c+i,none⟩) a).trans (r i s e)⟩
structure Dr (w:Zh) (base d m:Nat) (O P L:Value) (wd now given births:Int) (ks:List Kd) (ps:List Pd) (ls:List Ld):Prop where
 box:Aa w d [Zg wd,.map (some m),Zg now,Zg given,Zg births,O,P,L]
 map:∃n f,n<=1000000+births.toNat/\AT w 183 m n f/\BH w base (vB d m O P L) wd ks f
 ord:w.ownsRow base 183 8 O ks.length (AB (ks.map (·.sum)))
 cg:w.ownsRow base 163 2 P ps.length (Ab pC ps)
 ci:w.ownsRow base 164 3 L ls.length (Ab lC ls)
 bd:base<=d
 bm:base<=m
 ap:(vB d m O P L).Nodup
theorem BH.below{k:Zh}{l:Int}{f:Lit->Option Value}(h:BH w base V l j f)(e:Zz w k):BH k base V l j f:=by
 intro s g;rcases h s g with h|⟨u,ra,x,m,n,o,d⟩
 .exact .inl h
 .refine .inr ⟨u,ra,x,m,n,o,?_⟩;rcases d with d|⟨b,c,q,a,v,t,r⟩
  .exact .inl d
  .exact .inr ⟨b,c,q,Zr a e.size,v,(by rw[e.block b a];exact t),fun i s g=>(e.cell (p:=⟨b,c+i,none⟩) a).trans (r i s g)⟩
theorem Ae{a:Nat}{size:Nat}{c:Zj}(h:w.ownsRow a e size v n c)(i:Zz w w'):w'.ownsRow a e size v n c:=by
 refine⟨h.1,?_⟩;rcases h.2 with j|⟨g,cap,d,k,f,b,rest⟩
 .exact .inl j
 .exact .inr ⟨g,cap,d,k,f,(i.block g (Array.getElem?_eq_some_iff.1 b).1).trans b,rest⟩
theorem Dr.below{l:Zh}{d m:Nat}{O P:Value}{o e b a:Int}{i:List Kd}{k:List Pd}{j:List Ld}(h:Dr w base d m O P L o e b a i k j)(c:Zz w l):Dr l base d m O P L o e b a i k j:=by obtain⟨n,f,p,g,q⟩:=h.map;exact⟨h.box.below c,⟨n,f,p,g.ah c g.lt,q.below c⟩,Ae h.ord c,Ae h.cg c,Ae h.ci c,h.bd,h.bm,h.ap⟩
theorem Ac{a:Nat}{size:Nat}{f:Zj}(h:w.ownsRow a e size v n f)(b:v.ownBlock=some g):a<=g/\g<w.heap.size:=by
 rcases h.2 with⟨rfl,_⟩|⟨j,cap,i,rfl,d,c,_⟩
 .cases b
 .cases b;exact⟨d,(Array.getElem?_eq_some_iff.1 c).1⟩
theorem OC{b:Zh}{a:Nat}{size:Nat}{c:Zj}(h:w.ownsRow a e size v n c)(j:Below B w b)(i:∀g,v.ownBlock=some g->g<B):b.ownsRow a e size v n c:=by
 refine⟨h.1,?_⟩;rcases h.2 with l|⟨g,cap,d,rfl,f,k,rest⟩
 .exact .inl l
 .exact .inr ⟨g,cap,d,rfl,f,(j.block g (i g rfl)).trans k,rest⟩
theorem Abz(w:Zh)(a:Nat)(v:Value)(b:Zl)(x:w.ownsRow a 183 8 v b.length (AB b))(s:Zi)(t:b.length<=1000000)(i:a<=w.heap.size)(k:TypeId):
 ∃g cap d,(Builtin.append_ #[122,122] k #[v,Za w.heap.size 1 1]).run prog (w.alloc (Hj s))=.ok (Za g (b.length+1) cap) d/\d.ownsRow a 183 8 (Za g (b.length+1) cap) (b++[s]).length (AB (b++[s]))/\w.grownBy d v.ownBlock/\(v.ownBlock=some g\/g=w.heap.size+1):=by
 obtain⟨z,r,m,n,o⟩:=info_parts Kf;have l:=Ae x ((Below.refl _ _).alloc (Zx) (Hj s));have p:=R8.one w s;have h:∀j u,(AB [s])[j]?=some u->(w.alloc (Hj s)).cell? ((⟨w.heap.size,0,none⟩:Addr).add j)=some u:=by
  rcases p with⟨e,_⟩|⟨g,A,cap,e,_,h⟩
  .cases e
  .cases e;exact R8.cells h
 obtain⟨B,d,y,f,q,_,c⟩:=run_append_own_at (P:=prog) (w.alloc (Hj s)) a 122 k 183 z _ 8 8 underlying122 r m n o rfl Ys v b.length (AB b) l ⟨w.heap.size,0,none⟩ 1 1 (AB [s]) (Di [s]) h (Dz [s]) Yq Yw Yu;obtain⟨g,cap,rfl,_,_⟩:=Cc f (fun e=>by subst e;rcases f.2 with⟨_,t⟩|⟨_,_,_,e,_⟩<;>first|omega|cases e)
 refine⟨g,cap,d,y,?_,(World.grownBy_alloc w (Hj s) _).trans q,?_⟩
 .rw[GD,List.length_append];exact f
 .rcases c with c|c
  .exact .inl c.symm
  .right;simpa [Value.ownBlock]using c
end Go.Proofs.YtcankpdbabaacaaGreatDoor
