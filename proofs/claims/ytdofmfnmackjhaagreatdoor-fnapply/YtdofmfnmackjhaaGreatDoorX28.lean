import Derived.Test.YtdofmfnmackjhaaGreatDoorX24
import Derived.Test.YtdofmfnmackjhaaGreatDoorX25
set_option maxRecDepth 100000
set_option maxHeartbeats 16000000
namespace Go.Proofs.YtdofmfnmackjhaaGreatDoor
open ChangeShapes WideShapes ChangeAt RowKit _root_.Go.Proofs.Tryz List World Value
variable{w:Zh}{b:Nat}{d e f g a c:Value}
theorem XG{i j k l m n:D4}(h:Aa w b [d,e,f,g,i,j,k,l,m,n,a,c]):(w.cell? (Zd b 0)=some d/\w.frozen? ⟨b,0,none⟩=false)/\(w.cell? (Zd b 1)=some e/\w.frozen? ⟨b,1,none⟩=false)/\(w.cell? (Zd b 2)=some f/\w.frozen? ⟨b,2,none⟩=false)/\(w.cell? (Zd b 3)=some g/\w.frozen? ⟨b,3,none⟩=false)/\(w.cell? (Zd b 4)=some i/\w.frozen? ⟨b,4,none⟩=false)/\(w.cell? (Zd b 5)=some j/\w.frozen? ⟨b,5,none⟩=false)/\(w.cell? (Zd b 6)=some k/\w.frozen? ⟨b,6,none⟩=false)/\(w.cell? (Zd b 7)=some l/\w.frozen? ⟨b,7,none⟩=false)/\(w.cell? (Zd b 8)=some m/\w.frozen? ⟨b,8,none⟩=false)/\(w.cell? (Zd b 9)=some n/\w.frozen? ⟨b,9,none⟩=false)/\(w.cell? (Zd b 10)=some a/\w.frozen? ⟨b,10,none⟩=false)/\w.cell? (Zd b 11)=some c/\w.frozen? ⟨b,11,none⟩=false:=
 ⟨h 0 _ rfl,h 1 _ rfl,h 2 _ rfl,h 3 _ rfl,h 4 _ rfl,h 5 _ rfl,h 6 _ rfl,h 7 _ rfl,h 8 _ rfl,h 9 _ rfl,h 10 _ rfl,h 11 _ rfl⟩
theorem c6(h:Aa w b [a,c,d,e,f,g]):(w.cell? (Zd b 0)=some a/\w.frozen? ⟨b,0,none⟩=false)/\(w.cell? (Zd b 1)=some c/\w.frozen? ⟨b,1,none⟩=false)/\(w.cell? (Zd b 2)=some d/\w.frozen? ⟨b,2,none⟩=false)/\(w.cell? (Zd b 3)=some e/\w.frozen? ⟨b,3,none⟩=false)/\(w.cell? (Zd b 4)=some f/\w.frozen? ⟨b,4,none⟩=false)/\w.cell? (Zd b 5)=some g/\w.frozen? ⟨b,5,none⟩=false:=
 ⟨h 0 _ rfl,h 1 _ rfl,h 2 _ rfl,h 3 _ rfl,h 4 _ rfl,h 5 _ rfl⟩
def RdS(n:Nat)(w:Zh)(ta pa la:Zk)(ks:List Kd)(ps:List Pd)(ls:List Ld):Prop:=∀V w',(∀b∈V,b<n)->Tn V w w'->Bx w' w'.1.size ta pa la ks ps ls
theorem Ba.rdS{a:Nat}{g f e:Zk}{r p o:Nat}{q:Zj}{b:Dj}{d:Dy}{c:Dv}(h:Ba w a (C3 g b.length r) (C3 f d.length p) (C3 e c.length o) q b d c):RdS a w g f e b d c:=λV i l n=>by have⟨_,_,_,_,_,_,i,j,k,m⟩:=(h.K n l).rows;cases i;cases j;cases k;exact m
theorem Ba.get{a:Nat}{f e d:Zk}{k i g:Nat}{j:Zj}{ks:Dj}{c:Dy}{b:Dv}(h:Ba w a (C3 f ks.length k) (C3 e c.length i) (C3 d b.length g) j ks c b):Bx w w.1.size f e d ks c b:=
 h.rdS [] w Yu (Tn.of Ad)
