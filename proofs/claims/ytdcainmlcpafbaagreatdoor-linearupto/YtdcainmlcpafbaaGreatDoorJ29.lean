import Derived.Test.YtdcainmlcpafbaaGreatDoorJ27
set_option linter.all false
set_option maxHeartbeats 4000000
set_option maxRecDepth 20000
namespace Go.Proofs.YtdcainmlcpafbaaGreatDoor
open Go.RowKit
open Value renaming slice->J,pointer->P0
open Tryz renaming prog->pG
open IntKind renaming i64->T
open Option renaming none->Z,some->Y
open Obj renaming cells->G
open Value (bool)
def wK(C:Nat->Prop)(Kn g:Nat):Prop:=C g∨g=Kn
def RE(Kn:Nat)(P:Pl)(t:Nat)(C:Nat->Prop)(left:Int)(n:AG.Nd)(ok:Bool)(w w':World):Prop:=∃C' left',fO w' Kn P (t+1) C' left' n/\dP (wK C Kn) (wK C' Kn) w w'/\(left = -1->ok=true/\left' = -1)
def jE(Kn:Nat)(P:Pl)(t:Nat)(C:Nat->Prop)(left:Int)(n:Int)(f:AG.Nd×List (Int×AG.Ms))(ok:Bool)(l:Value)(w w':World):Prop:=dY w' w.heap.size l (fS f.2)/\eM n f.2/\RE Kn P t C left f.1 ok w w'
section
variable {w W W1 W2:World} {Kn:Nat} {P:Pl} {t:Nat} {C C':Nat->Prop} {left:Int} {n:AG.Nd}
def fW.but{w w':World}{P:Pl}{t:Nat}{C:Nat->Prop}{left:Int}{n:AG.Nd}{X:Nat}(h:fW w P t C left n)(a:dI X w w')(d:¬C X)(b:2<=X):fW w' P t C left n:=h.same (by rw[a.size];exact Nat.le_refl _) (λg e=>a.block g (λc=>d (c ▸ e))) (h.tabs.below (a.below b) (Nat.le_refl 2))
def xX(h:dP C C' W W1)(c:dI Kn w W)(b:dI Kn W1 W2):dP (wK C Kn) (wK C' Kn) w W2:=by have a1:dP (wK C Kn) (wK C Kn) w W:=dP.node c (.inr rfl);have e:dP (wK C Kn) (wK C' Kn) W W1:=⟨⟨h.kept.os,h.kept.tape,h.kept.output,h.kept.size,λk d j=>h.kept.block k d (λa=>j (.inl a))⟩,λg i=>i.elim (λa=>(h.grow g a).imp .inl id) (λa=>.inl (.inr a))⟩;have f:dP (wK C' Kn) (wK C' Kn) W1 W2:=dP.node b (.inr rfl);exact(a1.trans e).trans f
def qV{N:Int}{f:AG.Nd×List (Int×AG.Ms)}{ok:Bool}{l:Value}(h:fO w Kn P t C left n)(c:dI Kn w W)(j:gJ P t C left N f ok l W W1):(∀cs,dC W Kn cs 134->dC W1 Kn cs 134)/\∀W2,dI Kn W1 W2->dC W2 Kn (kA 0 P.Nd) 134->jE Kn P t C left N f ok l w W2:=by
 obtain⟨r,k,i,q,m,d,s⟩:=j;refine⟨λcs u=>d.blk u h.ne,λW2 b o=>?_⟩;have e:Kn<W.heap.size:=by rw[c.size];exact h.blk.lt
 have a:¬i Kn:=d.apart e h.ne;refine⟨?_,k,i,q,⟨o,m.but b a h.two,a,h.two⟩,xX d c b,s⟩;have p:dY W2 W.heap.size l (fS f.2):=r.qo (C:=λg=>g=Kn) (C':=λg=>g=Kn) (λg x v=>oG) (dP.node b rfl);rw[←c.size];exact p
def fO.at(h:fO w Kn P t C left n)(a:dI Kn w W):fW W P t C left n:=h.nd.but a h.ne h.two
def fO.gq(hLO:jN)(hUO:jL)(hSO:fA)(hBW:fC)(hBS:fD)(h:fO w Kn P t C left n)(c:t+1<=1000000)(set:Int)(hs:0<=set/\set<=31):Calls pG 53 #[P0 (Y ⟨Kn,0,Z⟩),I set] w λr w'=>∃l ok,r=.returned (.tuple #[l,I (n.gq set ok).2.2])/\jE Kn P t C left n.nodes ((n.gq set ok).1,(n.gq set ok).2.1) ok l w w':=by
 refine(pM hLO hUO Kn P.Nd 53 86 2 [I set] sG w h.blk (λv W2=>∃l ok,v=.tuple #[l,I (n.gq set ok).2.2]/\jE Kn P t C left n.nodes ((n.gq set ok).1,(n.gq set ok).2.1) ok l w W2) ?_).mono ?_;·intro W b;refine((h.at b).gq hSO hBW hBS c set hs).mono ?_;rintro r W1 ⟨l,ok,rfl,a⟩;obtain⟨a1,f⟩:=qV h b a;exact⟨_,rfl,⟨_,_,rfl⟩,a1,λW2 d e=>⟨l,ok,rfl,f W2 d e⟩⟩
 ·rintro r w' ⟨v,rfl,l,ok,rfl,a⟩;exact⟨l,ok,rfl,a⟩
def fO.admi(hLO:jN)(hUO:jL)(hSO:fA)(hBW:fC)(hBS:fD)(h:fO w Kn P t C left n)(d:t+1<=1000000)(k:Nat)(b:(k:Int)<n.nodes):Calls pG 55 #[P0 (Y ⟨Kn,0,Z⟩),I (k:Int)] w λr w'=>∃l ok,r=.returned (.tuple #[l,I (n.admi k ok).2.2])/\jE Kn P t C left n.nodes ((n.admi k ok).1,(n.admi k ok).2.1) ok l w w':=by
 refine(pM hLO hUO Kn P.Nd 55 87 2 [I (k:Int)] sG w h.blk (λv W2=>∃l ok,v=.tuple #[l,I (n.admi k ok).2.2]/\jE Kn P t C left n.nodes ((n.admi k ok).1,(n.admi k ok).2.1) ok l w W2) ?_).mono ?_;·intro W c;refine((h.at c).admi hSO hBW hBS d k b).mono ?_;rintro r W1 ⟨l,ok,rfl,a⟩;obtain⟨a1,f⟩:=qV h c a;exact⟨_,rfl,⟨_,_,rfl⟩,a1,λW2 e b=>⟨l,ok,rfl,f W2 e b⟩⟩
 ·rintro r w' ⟨v,rfl,l,ok,rfl,a⟩;exact⟨l,ok,rfl,a⟩
def fO.read(hLO:jN)(hUO:jL)(hSO:fA)(hBW:fC)(hBS:fD)(h:fO w Kn P t C left n)(c:t+1<=1000000)(bl:Int):Calls pG 89 #[P0 (Y ⟨Kn,0,Z⟩),I bl] w λr w'=>∃l ok,r=.returned (.tuple #[I (bif (n.operate bl (n.d.bk bl) ok).2.2==0 then n.ops+1 else 0),l,I (n.operate bl (n.d.bk bl) ok).2.2])/\jE Kn P t C left n.nodes ((n.operate bl (n.d.bk bl) ok).1,(n.operate bl (n.d.bk bl) ok).2.1) ok l w w':=by
 refine(pM hLO hUO Kn P.Nd 89 141 3 [I bl] sG w h.blk (λv W2=>∃l ok,v=.tuple #[I (bif (n.operate bl (n.d.bk bl) ok).2.2==0 then n.ops+1 else 0),l,I (n.operate bl (n.d.bk bl) ok).2.2]/\jE Kn P t C left n.nodes ((n.operate bl (n.d.bk bl) ok).1,(n.operate bl (n.d.bk bl) ok).2.1) ok l w W2) ?_).mono ?_;·intro W b;refine((h.at b).read hSO hBW hBS c bl).mono ?_;rintro r W1 ⟨l,ok,rfl,a⟩;obtain⟨a1,g⟩:=qV h b a;exact⟨_,rfl,⟨_,_,_,rfl⟩,a1,λW2 e f=>⟨l,ok,rfl,g W2 e f⟩⟩
 ·rintro r w' ⟨v,rfl,l,ok,rfl,a⟩;exact⟨l,ok,rfl,a⟩
def fO.write(hLO:jN)(hUO:jL)(hSO:fA)(hBW:fC)(hBS:fD)(h:fO w Kn P t C left n)(c:t+1<=1000000)(bl v:Int)(f:i_ v):Calls pG 90 #[P0 (Y ⟨Kn,0,Z⟩),I bl,I v] w λr w'=>∃l ok,r=.returned (.tuple #[I (bif (n.operate bl v ok).2.2==0 then n.ops+1 else 0),l,I (n.operate bl v ok).2.2])/\jE Kn P t C left n.nodes ((n.operate bl v ok).1,(n.operate bl v ok).2.1) ok l w w':=by
 refine(pM hLO hUO Kn P.Nd 90 142 3 [I bl,I v] sG w h.blk (λy W2=>∃l ok,y=.tuple #[I (bif (n.operate bl v ok).2.2==0 then n.ops+1 else 0),l,I (n.operate bl v ok).2.2]/\jE Kn P t C left n.nodes ((n.operate bl v ok).1,(n.operate bl v ok).2.1) ok l w W2) ?_).mono ?_;·intro W b;refine((h.at b).write hSO hBW hBS c bl v f).mono ?_;rintro r W1 ⟨l,ok,rfl,a⟩;obtain⟨a1,g⟩:=qV h b a;exact⟨_,rfl,⟨_,_,_,rfl⟩,a1,λW2 d e=>⟨l,ok,rfl,g W2 d e⟩⟩
 ·rintro r w' ⟨y,rfl,l,ok,rfl,a⟩;exact⟨l,ok,rfl,a⟩
def fO.retry(hLO:jN)(hUO:jL)(hSO:fA)(hBW:fC)(hBS:fD)(h:fO w Kn P t C left n)(c:t+1<=1000000):Calls pG 51 #[P0 (Y ⟨Kn,0,Z⟩)] w λr w'=>∃l ok,r=.returned l/\jE Kn P t C left n.nodes (n.retry ok) ok l w w':=by
 refine(pM hLO hUO Kn P.Nd 51 85 1 [] sG w h.blk (λl W2=>∃ok,jE Kn P t C left n.nodes (n.retry ok) ok l w W2) ?_).mono ?_;·intro W b;refine((h.at b).retry hSO hBW hBS c).mono ?_;rintro r W1 ⟨l,ok,rfl,a⟩;obtain⟨a1,f⟩:=qV h b a;exact⟨_,rfl,trivial,a1,λW2 d e=>⟨ok,f W2 d e⟩⟩
 ·rintro r w' ⟨l,rfl,ok,a⟩;exact⟨l,ok,rfl,a⟩
def fO.receive(hLO:jN)(hUO:jL)(hSO:fA)(hBW:fC)(hBS:fD)(h:fO w Kn P t C left n)(d:t+2<=1000000)(m:AG.Ms)(f:Rl m)(vb:Value)(c:∀W,dI Kn w W->gK W W.heap.size vb m.pk):Calls pG 91 #[P0 (Y ⟨Kn,0,Z⟩),vb] w λr w'=>∃l ok,r=.returned l/\jE Kn P t C left n.nodes (n.receive m ok) ok l w w':=by
 refine(pM hLO hUO Kn P.Nd 91 143 1 [vb] sG w h.blk (λl W2=>∃ok,jE Kn P t C left n.nodes (n.receive m ok) ok l w W2) ?_).mono ?_;·intro W b;refine((h.at b).receive hSO hBW hBS d m f vb (c W b)).mono ?_;rintro r W1 ⟨l,rfl,ok,a⟩;obtain⟨a1,i⟩:=qV h b a;exact⟨_,rfl,trivial,a1,λW2 e g=>⟨ok,i W2 e g⟩⟩
 ·rintro r w' ⟨l,rfl,ok,a⟩;exact⟨l,ok,rfl,a⟩
def fO.recs(hLO:jN)(hUO:jL)(h:fO w Kn P t C left n)(f:t<=1000000):Calls pG 27 #[P0 (Y ⟨Kn,0,Z⟩)] w λr w'=>∃v,r=.returned v/\w'.ownsRow w.heap.size 66 3 v n.d.recs.length (n.d.recs.flatMap eH.cells)/\fO w' Kn P t C left n/\dP (wK C Kn) (wK C Kn) w w':=by
 refine(pM hLO hUO Kn P.Nd 27 62 1 [] sG w h.blk (λv W2=>W2.ownsRow w.heap.size 66 3 v n.d.recs.length (n.d.recs.flatMap eH.cells)/\fO W2 Kn P t C left n/\dP (wK C Kn) (wK C Kn) w W2) ?_).mono ?_
 ·intro W b;refine((h.at b).recs f).mono ?_;rintro r W1 ⟨v,rfl,e,a⟩;have l:Kn<W.heap.size:=by rw[b.size];exact h.blk.lt
  refine⟨v,rfl,trivial,λcs m=>m.later a,λW2 c j=>⟨?_,⟨j,((h.at b).later a).but c h.ne h.two,h.ne,h.two⟩,xX (.of_below a) b c⟩⟩;rw[←b.size];exact dQ e (λg i=>c.block g (λo=>by have:=(e.lt g i).1;omega))
 ·rintro r w' ⟨v,rfl,k⟩;exact⟨v,rfl,k⟩
def fO.done(hLO:jN)(hUO:jL)(h:fO w Kn P t C left n):Calls pG 82 #[P0 (Y ⟨Kn,0,Z⟩)] w λr w'=>∃v,r=.returned v/\w'.ownsRow P.low 76 5 v n.res.length (n.res.flatMap dJ.cells)/\(∀g,v.ownBlock=some g->C g)/\fO w' Kn P t C left {n with res:=[]}/\dP (wK C Kn) (wK C Kn) w w':=by
 refine(pM hLO hUO Kn P.Nd 82 129 1 [] sG w h.blk (λv W2=>W2.ownsRow P.low 76 5 v n.res.length (n.res.flatMap dJ.cells)/\(∀g,v.ownBlock=some g->C g)/\fO W2 Kn P t C left {n with res:=[]}/\dP (wK C Kn) (wK C Kn) w W2) ?_).mono ?_;·intro W e;refine(h.at e).done.mono ?_;rintro r W1 ⟨v,rfl,l,i,c,d⟩;refine⟨v,rfl,trivial,λcs m=>d.blk m h.ne,λW2 a j=>⟨?_,c,⟨j,l.but a h.ne h.two,h.ne,h.two⟩,xX d e a⟩⟩;exact dQ i (λg b=>a.block g (λf=>h.ne (f ▸ c g b)))
 ·rintro r w' ⟨v,rfl,k⟩;exact⟨v,rfl,k⟩
end
end Go.Proofs.YtdcainmlcpafbaaGreatDoor
