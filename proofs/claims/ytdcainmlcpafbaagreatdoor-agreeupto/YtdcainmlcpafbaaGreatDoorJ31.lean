import Derived.Test.YtdcainmlcpafbaaGreatDoorJ29
set_option linter.all false
set_option maxHeartbeats 4000000
set_option maxRecDepth 20000
namespace Go.Proofs.YtdcainmlcpafbaaGreatDoor
open Go.RowKit
open Value renaming int->I,slice->J,pointer->P0
open Tryz renaming prog->pG
open IntKind renaming i64->T
open Option renaming none->Z,some->Y
open Obj renaming cells->G
open Value (bool)
def wK(C:Nat->Prop)(Kn g:Nat):Prop:=C g∨g=Kn
def QE(Kn:Nat)(P:Pl)(t:Nat)(C:Nat->Prop)(left:Int)(n:AG.Nd)(ok:Bool)(w w':World):Prop:=∃C' left',fK w' Kn P (t+1) C' left' n/\dN (wK C Kn) (wK C' Kn) w w'/\(left = -1->ok=true/\left' = -1)
def i2(Kn:Nat)(P:Pl)(t:Nat)(C:Nat->Prop)(left:Int)(n:Int)(f:AG.Nd×List (Int×AG.Ms))(ok:Bool)(l:Value)(w w':World):Prop:=dW w' w.heap.size l (fP f.2)/\eJ n f.2/\QE Kn P t C left f.1 ok w w'
section
variable {w W W1 W2:World} {Kn:Nat} {P:Pl} {t:Nat} {C C':Nat->Prop} {left:Int} {n:AG.Nd}
theorem fT.but{w w':World}{P:Pl}{t:Nat}{C:Nat->Prop}{left:Int}{n:AG.Nd}{X:Nat}(h:fT w P t C left n)(a:dH X w w')(d:¬C X)(b:2<=X):fT w' P t C left n:=h.same (by rw[a.size];exact Nat.le_refl _) (fun g e=>a.block g (fun c=>d (c ▸ e))) (h.tabs.below (a.below b) (Nat.le_refl 2))
theorem wQ(h:dN C C' W W1)(c:dH Kn w W)(b:dH Kn W1 W2):dN (wK C Kn) (wK C' Kn) w W2:=by have a1:dN (wK C Kn) (wK C Kn) w W:=dN.node c (.inr rfl);have e:dN (wK C Kn) (wK C' Kn) W W1:=⟨⟨h.kept.os,h.kept.tape,h.kept.output,h.kept.size,fun k d j=>h.kept.block k d (fun a=>j (.inl a))⟩,fun g i=>i.elim (fun a=>(h.grow g a).imp .inl id) (fun a=>.inl (.inr a))⟩;have f:dN (wK C' Kn) (wK C' Kn) W1 W2:=dN.node b (.inr rfl);exact(a1.trans e).trans f
theorem pZ{N:Int}{f:AG.Nd×List (Int×AG.Ms)}{ok:Bool}{l:Value}(h:fK w Kn P t C left n)(c:dH Kn w W)(j:gF P t C left N f ok l W W1):(∀cs,dC W Kn cs 134->dC W1 Kn cs 134)/\∀W2,dH Kn W1 W2->dC W2 Kn (kA 0 P.Nd) 134->i2 Kn P t C left N f ok l w W2:=by
 obtain⟨r,k,i,q,m,d,s⟩:=j;refine⟨fun cs u=>d.blk u h.ne,fun W2 b o=>?_⟩;have e:Kn<W.heap.size:=by rw[c.size];exact h.blk.lt
 have a:¬i Kn:=d.apart e h.ne;refine⟨?_,k,i,q,⟨o,m.but b a h.two,a,h.two⟩,wQ d c b,s⟩;have p:dW W2 W.heap.size l (fP f.2):=r.ql (C:=fun g=>g=Kn) (C':=fun g=>g=Kn) (fun g x v=>by omega) (dN.node b rfl);rw[←c.size];exact p
theorem fK.at(h:fK w Kn P t C left n)(a:dH Kn w W):fT W P t C left n:=h.nd.but a h.ne h.two
theorem fK.dm(hLO:jA)(hUO:i9)(hSO:eW)(hBW:eZ)(hBS:fA)(h:fK w Kn P t C left n)(c:t+1<=1000000)(set:Int)(hs:0<=set/\set<=31):Calls pG 53 #[P0 (Y ⟨Kn,0,Z⟩),I T set] w fun r w'=>∃l ok,r=.returned (.tuple #[l,I T (n.dm set ok).2.2])/\i2 Kn P t C left n.nodes ((n.dm set ok).1,(n.dm set ok).2.1) ok l w w':=by
 refine(oQ hLO hUO Kn P.Nd 53 86 2 [I T set] (by simp) w h.blk (fun v W2=>∃l ok,v=.tuple #[l,I T (n.dm set ok).2.2]/\i2 Kn P t C left n.nodes ((n.dm set ok).1,(n.dm set ok).2.1) ok l w W2) ?_).mono ?_;·intro W b;refine((h.at b).dm hSO hBW hBS c set hs).mono ?_;rintro r W1 ⟨l,ok,rfl,a⟩;obtain⟨a1,f⟩:=pZ h b a;exact⟨_,rfl,⟨_,_,rfl⟩,a1,fun W2 d e=>⟨l,ok,rfl,f W2 d e⟩⟩
 ·rintro r w' ⟨v,rfl,l,ok,rfl,a⟩;exact⟨l,ok,rfl,a⟩
theorem fK.admi(hLO:jA)(hUO:i9)(hSO:eW)(hBW:eZ)(hBS:fA)(h:fK w Kn P t C left n)(d:t+1<=1000000)(k:Nat)(b:(k:Int)<n.nodes):Calls pG 55 #[P0 (Y ⟨Kn,0,Z⟩),I T (k:Int)] w fun r w'=>∃l ok,r=.returned (.tuple #[l,I T (n.admi k ok).2.2])/\i2 Kn P t C left n.nodes ((n.admi k ok).1,(n.admi k ok).2.1) ok l w w':=by
 refine(oQ hLO hUO Kn P.Nd 55 87 2 [I T (k:Int)] (by simp) w h.blk (fun v W2=>∃l ok,v=.tuple #[l,I T (n.admi k ok).2.2]/\i2 Kn P t C left n.nodes ((n.admi k ok).1,(n.admi k ok).2.1) ok l w W2) ?_).mono ?_;·intro W c;refine((h.at c).admi hSO hBW hBS d k b).mono ?_;rintro r W1 ⟨l,ok,rfl,a⟩;obtain⟨a1,f⟩:=pZ h c a;exact⟨_,rfl,⟨_,_,rfl⟩,a1,fun W2 e b=>⟨l,ok,rfl,f W2 e b⟩⟩
 ·rintro r w' ⟨v,rfl,l,ok,rfl,a⟩;exact⟨l,ok,rfl,a⟩
theorem fK.read(hLO:jA)(hUO:i9)(hSO:eW)(hBW:eZ)(hBS:fA)(h:fK w Kn P t C left n)(c:t+1<=1000000)(bl:Int):Calls pG 89 #[P0 (Y ⟨Kn,0,Z⟩),I T bl] w fun r w'=>∃l ok,r=.returned (.tuple #[I T (bif (n.operate bl (n.d.bk bl) ok).2.2==0 then n.ops+1 else 0),l,I T (n.operate bl (n.d.bk bl) ok).2.2])/\i2 Kn P t C left n.nodes ((n.operate bl (n.d.bk bl) ok).1,(n.operate bl (n.d.bk bl) ok).2.1) ok l w w':=by
 refine(oQ hLO hUO Kn P.Nd 89 141 3 [I T bl] (by simp) w h.blk (fun v W2=>∃l ok,v=.tuple #[I T (bif (n.operate bl (n.d.bk bl) ok).2.2==0 then n.ops+1 else 0),l,I T (n.operate bl (n.d.bk bl) ok).2.2]/\i2 Kn P t C left n.nodes ((n.operate bl (n.d.bk bl) ok).1,(n.operate bl (n.d.bk bl) ok).2.1) ok l w W2) ?_).mono ?_;·intro W b;refine((h.at b).read hSO hBW hBS c bl).mono ?_;rintro r W1 ⟨l,ok,rfl,a⟩;obtain⟨a1,g⟩:=pZ h b a;exact⟨_,rfl,⟨_,_,_,rfl⟩,a1,fun W2 e f=>⟨l,ok,rfl,g W2 e f⟩⟩
 ·rintro r w' ⟨v,rfl,l,ok,rfl,a⟩;exact⟨l,ok,rfl,a⟩
theorem fK.write(hLO:jA)(hUO:i9)(hSO:eW)(hBW:eZ)(hBS:fA)(h:fK w Kn P t C left n)(c:t+1<=1000000)(bl v:Int)(f:i_ v):Calls pG 90 #[P0 (Y ⟨Kn,0,Z⟩),I T bl,I T v] w fun r w'=>∃l ok,r=.returned (.tuple #[I T (bif (n.operate bl v ok).2.2==0 then n.ops+1 else 0),l,I T (n.operate bl v ok).2.2])/\i2 Kn P t C left n.nodes ((n.operate bl v ok).1,(n.operate bl v ok).2.1) ok l w w':=by
 refine(oQ hLO hUO Kn P.Nd 90 142 3 [I T bl,I T v] (by simp) w h.blk (fun y W2=>∃l ok,y=.tuple #[I T (bif (n.operate bl v ok).2.2==0 then n.ops+1 else 0),l,I T (n.operate bl v ok).2.2]/\i2 Kn P t C left n.nodes ((n.operate bl v ok).1,(n.operate bl v ok).2.1) ok l w W2) ?_).mono ?_;·intro W b;refine((h.at b).write hSO hBW hBS c bl v f).mono ?_;rintro r W1 ⟨l,ok,rfl,a⟩;obtain⟨a1,g⟩:=pZ h b a;exact⟨_,rfl,⟨_,_,_,rfl⟩,a1,fun W2 d e=>⟨l,ok,rfl,g W2 d e⟩⟩
 ·rintro r w' ⟨y,rfl,l,ok,rfl,a⟩;exact⟨l,ok,rfl,a⟩
theorem fK.iq(hLO:jA)(hUO:i9)(hSO:eW)(hBW:eZ)(hBS:fA)(h:fK w Kn P t C left n)(c:t+1<=1000000):Calls pG 51 #[P0 (Y ⟨Kn,0,Z⟩)] w fun r w'=>∃l ok,r=.returned l/\i2 Kn P t C left n.nodes (n.iq ok) ok l w w':=by
 refine(oQ hLO hUO Kn P.Nd 51 85 1 [] (by simp) w h.blk (fun l W2=>∃ok,i2 Kn P t C left n.nodes (n.iq ok) ok l w W2) ?_).mono ?_;·intro W b;refine((h.at b).iq hSO hBW hBS c).mono ?_;rintro r W1 ⟨l,ok,rfl,a⟩;obtain⟨a1,f⟩:=pZ h b a;exact⟨_,rfl,trivial,a1,fun W2 d e=>⟨ok,f W2 d e⟩⟩
 ·rintro r w' ⟨l,rfl,ok,a⟩;exact⟨l,ok,rfl,a⟩
theorem fK.receive(hLO:jA)(hUO:i9)(hSO:eW)(hBW:eZ)(hBS:fA)(h:fK w Kn P t C left n)(d:t+2<=1000000)(m:AG.Ms)(f:Rl m)(vb:Value)(c:∀W,dH Kn w W->gG W W.heap.size vb m.pk):Calls pG 91 #[P0 (Y ⟨Kn,0,Z⟩),vb] w fun r w'=>∃l ok,r=.returned l/\i2 Kn P t C left n.nodes (n.receive m ok) ok l w w':=by
 refine(oQ hLO hUO Kn P.Nd 91 143 1 [vb] (by simp) w h.blk (fun l W2=>∃ok,i2 Kn P t C left n.nodes (n.receive m ok) ok l w W2) ?_).mono ?_;·intro W b;refine((h.at b).receive hSO hBW hBS d m f vb (c W b)).mono ?_;rintro r W1 ⟨l,rfl,ok,a⟩;obtain⟨a1,i⟩:=pZ h b a;exact⟨_,rfl,trivial,a1,fun W2 e g=>⟨ok,i W2 e g⟩⟩
 ·rintro r w' ⟨l,rfl,ok,a⟩;exact⟨l,ok,rfl,a⟩
theorem fK.recs(hLO:jA)(hUO:i9)(h:fK w Kn P t C left n)(f:t<=1000000):Calls pG 27 #[P0 (Y ⟨Kn,0,Z⟩)] w fun r w'=>∃v,r=.returned v/\w'.ownsRow w.heap.size 66 3 v n.d.recs.length (n.d.recs.flatMap eE.cells)/\fK w' Kn P t C left n/\dN (wK C Kn) (wK C Kn) w w':=by
 refine(oQ hLO hUO Kn P.Nd 27 62 1 [] (by simp) w h.blk (fun v W2=>W2.ownsRow w.heap.size 66 3 v n.d.recs.length (n.d.recs.flatMap eE.cells)/\fK W2 Kn P t C left n/\dN (wK C Kn) (wK C Kn) w W2) ?_).mono ?_
 ·intro W b;refine((h.at b).recs f).mono ?_;rintro r W1 ⟨v,rfl,e,a⟩;have l:Kn<W.heap.size:=by rw[b.size];exact h.blk.lt
  refine⟨v,rfl,trivial,fun cs m=>m.later a,fun W2 c j=>⟨?_,⟨j,((h.at b).later a).but c h.ne h.two,h.ne,h.two⟩,wQ (.of_below a) b c⟩⟩;rw[←b.size];exact dO e (fun g i=>c.block g (fun o=>by have:=(e.lt g i).1;omega))
 ·rintro r w' ⟨v,rfl,k⟩;exact⟨v,rfl,k⟩
theorem fK.done(hLO:jA)(hUO:i9)(h:fK w Kn P t C left n):Calls pG 82 #[P0 (Y ⟨Kn,0,Z⟩)] w fun r w'=>∃v,r=.returned v/\w'.ownsRow P.low 76 5 v n.res.length (n.res.flatMap dJ.cells)/\(∀g,v.ownBlock=some g->C g)/\fK w' Kn P t C left {n with res:=[]}/\dN (wK C Kn) (wK C Kn) w w':=by
 refine(oQ hLO hUO Kn P.Nd 82 129 1 [] (by simp) w h.blk (fun v W2=>W2.ownsRow P.low 76 5 v n.res.length (n.res.flatMap dJ.cells)/\(∀g,v.ownBlock=some g->C g)/\fK W2 Kn P t C left {n with res:=[]}/\dN (wK C Kn) (wK C Kn) w W2) ?_).mono ?_;·intro W e;refine(h.at e).done.mono ?_;rintro r W1 ⟨v,rfl,l,i,c,d⟩;refine⟨v,rfl,trivial,fun cs m=>d.blk m h.ne,fun W2 a j=>⟨?_,c,⟨j,l.but a h.ne h.two,h.ne,h.two⟩,wQ d e a⟩⟩;exact dO i (fun g b=>a.block g (fun f=>h.ne (f ▸ c g b)))
 ·rintro r w' ⟨v,rfl,k⟩;exact⟨v,rfl,k⟩
end
end Go.Proofs.YtdcainmlcpafbaaGreatDoor
