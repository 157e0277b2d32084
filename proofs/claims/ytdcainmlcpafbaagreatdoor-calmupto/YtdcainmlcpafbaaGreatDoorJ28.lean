import Derived.Test.YtdcainmlcpafbaaGreatDoorJ26
set_option linter.all false
set_option maxHeartbeats 4000000
set_option maxRecDepth 20000
namespace Go.Proofs.YtdcainmlcpafbaaGreatDoor
open Go.RowKit
open Value renaming slice->J,pointer->P0
open Tryz renaming prog->pG
open IntKind renaming i64->T
open Option renaming none->Z,some->Y
open Obj renaming cells->G
open Value (bool)
def wK(C:Nat->Prop)(Kn g:Nat):Prop:=C g∨g=Kn
def TK(Kn:Nat)(P:Pl)(t:Nat)(C:Nat->Prop)(left:Int)(n:AG.Nd)(ok:Bool)(w w':World):Prop:=∃C' left',fN w' Kn P (t+1) C' left' n/\dR (wK C Kn) (wK C' Kn) w w'/\(left = -1->ok=true/\left' = -1)
def jI(Kn:Nat)(P:Pl)(t:Nat)(C:Nat->Prop)(left:Int)(n:Int)(f:AG.Nd×List (Int×AG.Ms))(ok:Bool)(l:Value)(w w':World):Prop:=dZ w' w.1.size l (fY f.2)/\eR n f.2/\TK Kn P t C left f.1 ok w w'
section
variable {w W W1 W2:World} {Kn:Nat} {P:Pl} {t:Nat} {C C':Nat->Prop} {left:Int} {n:AG.Nd}
def fV.but{w w':World}{P:Pl}{t:Nat}{C:Nat->Prop}{left:Int}{n:AG.Nd}{X:Nat}(h:fV w P t C left n)(a:dM X w w')(d:¬C X)(b:2<=X):fV w' P t C left n:=h.same (by rw[a.size];exact Nat.le_refl _) (λg e=>a.block g (λc=>d (c ▸ e))) (h.tabs.below (a.below b) (Nat.le_refl 2))
def vF(h:dR C C' W W1)(c:dM Kn w W)(b:dM Kn W1 W2):dR (wK C Kn) (wK C' Kn) w W2:=by have a1:dR (wK C Kn) (wK C Kn) w W:=dR.node c (.inr rfl);have e:dR (wK C Kn) (wK C' Kn) W W1:=⟨⟨h.kept.os,h.kept.tape,h.kept.output,h.kept.size,λk d j=>h.kept.block k d (λa=>j (.inl a))⟩,λg i=>i.elim (λa=>(h.2 g a).imp .inl id) (λa=>.inl (.inr a))⟩;have f:dR (wK C' Kn) (wK C' Kn) W1 W2:=dR.node b (.inr rfl);exact(a1.trans e).trans f
def rG{N:Int}{f:AG.Nd×List (Int×AG.Ms)}{ok:Bool}{l:Value}(h:fN w Kn P t C left n)(c:dM Kn w W)(j:gL P t C left N f ok l W W1):(∀cs,dI W Kn cs 134->dI W1 Kn cs 134)/\∀W2,dM Kn W1 W2->dI W2 Kn (kA 0 P.Nd) 134->jI Kn P t C left N f ok l w W2:=by
 obtain⟨r,k,i,q,m,d,s⟩:=j;refine⟨λcs u=>d.blk u h.ne,λW2 b o=>?_⟩;have e:Kn<W.1.size:=by rw[c.size];exact h.blk.lt
 have a:¬i Kn:=d.apart e h.ne;refine⟨?_,k,i,q,⟨o,m.but b a h.two,a,h.two⟩,vF d c b,s⟩;have p:dZ W2 W.1.size l (fY f.2):=r.ql (C:=λg=>g=Kn) (C':=λg=>g=Kn) (λg x v=>oG) (dR.node b rfl);rw[←c.size];exact p
def fN.at(h:fN w Kn P t C left n)(a:dM Kn w W):fV W P t C left n:=h.nd.but a h.ne h.two
def fN.eu(hLO:i8)(hUO:i6)(hSO:fB)(hBW:fH)(hBS:fI)(h:fN w Kn P t C left n)(c:t+1<=20000000)(set:Int)(hs:0<=set/\set<=31):Calls pG 53 #[P0 (Y ⟨Kn,0,Z⟩),I set] w λr w'=>∃l ok,r=.returned (.tuple #[l,I (n.eu set ok).2.2])/\jI Kn P t C left n.2 ((n.eu set ok).1,(n.eu set ok).2.1) ok l w w':=by
 refine(oV hLO hUO Kn P.Nd 53 86 2 [I set] sG w h.blk (λv W2=>∃l ok,v=.tuple #[l,I (n.eu set ok).2.2]/\jI Kn P t C left n.2 ((n.eu set ok).1,(n.eu set ok).2.1) ok l w W2) ?_).mono ?_;·intro W b;refine((h.at b).eu hSO hBW hBS c set hs).mono ?_;rintro r W1 ⟨l,ok,rfl,a⟩;obtain⟨a1,f⟩:=rG h b a;exact⟨_,rfl,⟨_,_,rfl⟩,a1,λW2 d e=>⟨l,ok,rfl,f W2 d e⟩⟩
 ·rintro r w' ⟨v,rfl,l,ok,rfl,a⟩;exact⟨l,ok,rfl,a⟩
def fN.admi(hLO:i8)(hUO:i6)(hSO:fB)(hBW:fH)(hBS:fI)(h:fN w Kn P t C left n)(d:t+1<=20000000)(k:Nat)(b:(k:Int)<n.2):Calls pG 55 #[P0 (Y ⟨Kn,0,Z⟩),I (k:Int)] w λr w'=>∃l ok,r=.returned (.tuple #[l,I (n.admi k ok).2.2])/\jI Kn P t C left n.2 ((n.admi k ok).1,(n.admi k ok).2.1) ok l w w':=by
 refine(oV hLO hUO Kn P.Nd 55 87 2 [I (k:Int)] sG w h.blk (λv W2=>∃l ok,v=.tuple #[l,I (n.admi k ok).2.2]/\jI Kn P t C left n.2 ((n.admi k ok).1,(n.admi k ok).2.1) ok l w W2) ?_).mono ?_;·intro W c;refine((h.at c).admi hSO hBW hBS d k b).mono ?_;rintro r W1 ⟨l,ok,rfl,a⟩;obtain⟨a1,f⟩:=rG h c a;exact⟨_,rfl,⟨_,_,rfl⟩,a1,λW2 e b=>⟨l,ok,rfl,f W2 e b⟩⟩
 ·rintro r w' ⟨v,rfl,l,ok,rfl,a⟩;exact⟨l,ok,rfl,a⟩
def fN.read(hLO:i8)(hUO:i6)(hSO:fB)(hBW:fH)(hBS:fI)(h:fN w Kn P t C left n)(c:t+1<=20000000)(bl:Int):Calls pG 89 #[P0 (Y ⟨Kn,0,Z⟩),I bl] w λr w'=>∃l ok,r=.returned (.tuple #[I (bif (n.operate bl (n.d.bk bl) ok).2.2==0 then n.ops+1 else 0),l,I (n.operate bl (n.d.bk bl) ok).2.2])/\jI Kn P t C left n.2 ((n.operate bl (n.d.bk bl) ok).1,(n.operate bl (n.d.bk bl) ok).2.1) ok l w w':=by
 refine(oV hLO hUO Kn P.Nd 89 141 3 [I bl] sG w h.blk (λv W2=>∃l ok,v=.tuple #[I (bif (n.operate bl (n.d.bk bl) ok).2.2==0 then n.ops+1 else 0),l,I (n.operate bl (n.d.bk bl) ok).2.2]/\jI Kn P t C left n.2 ((n.operate bl (n.d.bk bl) ok).1,(n.operate bl (n.d.bk bl) ok).2.1) ok l w W2) ?_).mono ?_;·intro W b;refine((h.at b).read hSO hBW hBS c bl).mono ?_;rintro r W1 ⟨l,ok,rfl,a⟩;obtain⟨a1,g⟩:=rG h b a;exact⟨_,rfl,⟨_,_,_,rfl⟩,a1,λW2 e f=>⟨l,ok,rfl,g W2 e f⟩⟩
 ·rintro r w' ⟨v,rfl,l,ok,rfl,a⟩;exact⟨l,ok,rfl,a⟩
def fN.write(hLO:i8)(hUO:i6)(hSO:fB)(hBW:fH)(hBS:fI)(h:fN w Kn P t C left n)(c:t+1<=20000000)(bl v:Int)(f:i_ v):Calls pG 90 #[P0 (Y ⟨Kn,0,Z⟩),I bl,I v] w λr w'=>∃l ok,r=.returned (.tuple #[I (bif (n.operate bl v ok).2.2==0 then n.ops+1 else 0),l,I (n.operate bl v ok).2.2])/\jI Kn P t C left n.2 ((n.operate bl v ok).1,(n.operate bl v ok).2.1) ok l w w':=by
 refine(oV hLO hUO Kn P.Nd 90 142 3 [I bl,I v] sG w h.blk (λy W2=>∃l ok,y=.tuple #[I (bif (n.operate bl v ok).2.2==0 then n.ops+1 else 0),l,I (n.operate bl v ok).2.2]/\jI Kn P t C left n.2 ((n.operate bl v ok).1,(n.operate bl v ok).2.1) ok l w W2) ?_).mono ?_;·intro W b;refine((h.at b).write hSO hBW hBS c bl v f).mono ?_;rintro r W1 ⟨l,ok,rfl,a⟩;obtain⟨a1,g⟩:=rG h b a;exact⟨_,rfl,⟨_,_,_,rfl⟩,a1,λW2 d e=>⟨l,ok,rfl,g W2 d e⟩⟩
 ·rintro r w' ⟨y,rfl,l,ok,rfl,a⟩;exact⟨l,ok,rfl,a⟩
def fN.gq(hLO:i8)(hUO:i6)(hSO:fB)(hBW:fH)(hBS:fI)(h:fN w Kn P t C left n)(c:t+1<=20000000):Calls pG 51 #[P0 (Y ⟨Kn,0,Z⟩)] w λr w'=>∃l ok,r=.returned l/\jI Kn P t C left n.2 (n.gq ok) ok l w w':=by
 refine(oV hLO hUO Kn P.Nd 51 85 1 [] sG w h.blk (λl W2=>∃ok,jI Kn P t C left n.2 (n.gq ok) ok l w W2) ?_).mono ?_;·intro W b;refine((h.at b).gq hSO hBW hBS c).mono ?_;rintro r W1 ⟨l,ok,rfl,a⟩;obtain⟨a1,f⟩:=rG h b a;exact⟨_,rfl,trivial,a1,λW2 d e=>⟨ok,f W2 d e⟩⟩
 ·rintro r w' ⟨l,rfl,ok,a⟩;exact⟨l,ok,rfl,a⟩
def fN.receive(hLO:i8)(hUO:i6)(hSO:fB)(hBW:fH)(hBS:fI)(h:fN w Kn P t C left n)(d:t+2<=20000000)(m:AG.Ms)(f:Rl m)(vb:Value)(c:∀W,dM Kn w W->gU W W.1.size vb m.pk):Calls pG 91 #[P0 (Y ⟨Kn,0,Z⟩),vb] w λr w'=>∃l ok,r=.returned l/\jI Kn P t C left n.2 (n.receive m ok) ok l w w':=by
 refine(oV hLO hUO Kn P.Nd 91 143 1 [vb] sG w h.blk (λl W2=>∃ok,jI Kn P t C left n.2 (n.receive m ok) ok l w W2) ?_).mono ?_;·intro W b;refine((h.at b).receive hSO hBW hBS d m f vb (c W b)).mono ?_;rintro r W1 ⟨l,rfl,ok,a⟩;obtain⟨a1,i⟩:=rG h b a;exact⟨_,rfl,trivial,a1,λW2 e g=>⟨ok,i W2 e g⟩⟩
 ·rintro r w' ⟨l,rfl,ok,a⟩;exact⟨l,ok,rfl,a⟩
def fN.recs(hLO:i8)(hUO:i6)(h:fN w Kn P t C left n)(f:t<=20000000):Calls pG 27 #[P0 (Y ⟨Kn,0,Z⟩)] w λr w'=>∃v,r=.returned v/\w'.ownsRow w.1.size 66 3 v n.d.recs.length (n.d.recs.flatMap eM.cells)/\fN w' Kn P t C left n/\dR (wK C Kn) (wK C Kn) w w':=by
 refine(oV hLO hUO Kn P.Nd 27 62 1 [] sG w h.blk (λv W2=>W2.ownsRow w.1.size 66 3 v n.d.recs.length (n.d.recs.flatMap eM.cells)/\fN W2 Kn P t C left n/\dR (wK C Kn) (wK C Kn) w W2) ?_).mono ?_
 ·intro W b;refine((h.at b).recs f).mono ?_;rintro r W1 ⟨v,rfl,e,a⟩;have l:Kn<W.1.size:=by rw[b.size];exact h.blk.lt
  refine⟨v,rfl,trivial,λcs m=>m.later a,λW2 c j=>⟨?_,⟨j,((h.at b).later a).but c h.ne h.two,h.ne,h.two⟩,vF (.of_below a) b c⟩⟩;rw[←b.size];exact dW e (λg i=>c.block g (λo=>by have:=(e.lt g i).1;omega))
 ·rintro r w' ⟨v,rfl,k⟩;exact⟨v,rfl,k⟩
def fN.om(hLO:i8)(hUO:i6)(h:fN w Kn P t C left n):Calls pG 26 #[P0 (Y ⟨Kn,0,Z⟩)] w λr w'=>r=.returned (.bool n.act)/\fN w' Kn P t C left n/\dR (wK C Kn) (wK C Kn) w w':=by
 refine(oV hLO hUO Kn P.Nd 26 61 1 [] sG w h.blk (λv W2=>v=.bool n.act/\fN W2 Kn P t C left n/\dR (wK C Kn) (wK C Kn) w W2) ?_).mono ?_;·intro W a;refine(h.at a).om.mono ?_;rintro r W1 ⟨rfl,rfl⟩;exact⟨_,rfl,trivial,λcs e=>e,λW2 b c=>⟨rfl,⟨c,(h.at a).but b h.ne h.two,h.ne,h.two⟩,vF (.of_below b_) a b⟩⟩
 ·rintro r w' ⟨v,rfl,rfl,d⟩;exact⟨rfl,d⟩
def fN.done(hLO:i8)(hUO:i6)(h:fN w Kn P t C left n):Calls pG 82 #[P0 (Y ⟨Kn,0,Z⟩)] w λr w'=>∃v,r=.returned v/\w'.ownsRow P.low 76 5 v n.res.length (n.res.flatMap dO.cells)/\(∀g,v.ownBlock=some g->C g)/\fN w' Kn P t C left {n with res:=[]}/\dR (wK C Kn) (wK C Kn) w w':=by
 refine(oV hLO hUO Kn P.Nd 82 129 1 [] sG w h.blk (λv W2=>W2.ownsRow P.low 76 5 v n.res.length (n.res.flatMap dO.cells)/\(∀g,v.ownBlock=some g->C g)/\fN W2 Kn P t C left {n with res:=[]}/\dR (wK C Kn) (wK C Kn) w W2) ?_).mono ?_;·intro W e;refine(h.at e).done.mono ?_;rintro r W1 ⟨v,rfl,l,i,c,d⟩;refine⟨v,rfl,trivial,λcs m=>d.blk m h.ne,λW2 a j=>⟨?_,c,⟨j,l.but a h.ne h.two,h.ne,h.two⟩,vF d e a⟩⟩;exact dW i (λg b=>a.block g (λf=>h.ne (f ▸ c g b)))
 ·rintro r w' ⟨v,rfl,k⟩;exact⟨v,rfl,k⟩
end
end Go.Proofs.YtdcainmlcpafbaaGreatDoor
