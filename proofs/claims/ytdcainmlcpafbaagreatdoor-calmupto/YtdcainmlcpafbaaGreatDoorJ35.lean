import Derived.Test.YtdcainmlcpafbaaGreatDoorJ34
set_option linter.all false
set_option maxHeartbeats 1000000
set_option maxRecDepth 20000
namespace Go.Proofs.YtdcainmlcpafbaaGreatDoor
namespace AG
structure Sq(n:Int)(R:Int->Rc)(x:Int->Nd):Prop where
  q:∀k,0<=k->k<n->Qn n k (x k).d.ep (x k)
  l0:∀k,0<=k->k<n->0<=(x k).d.ep
  rc:∀k,0<=k->k<n->∀e,0<=e->e<=(x k).d.ep->(x k).d.rc e=R e
  rE:∀k,0<=k->k<n->∀e,0<=e->e<=(x k).d.ep->(R e).E=e
  fo:∀k,0<=k->k<n->∀e,0<=e->e<(x k).d.ep->folB (R e) (e+1) (R (e+1)).P (R (e+1)).S=true
  pr:∀k,0<=k->k<n->∀e,(x k).d.ep<=e->0<=(vt (x k) e).pr
def vR(R:Int->Rc)(e:Int):V:=((R (e+1)).P,(R (e+1)).S)
def Qn.gq{n k E:Int}{y:Nd}(h:Qn n k E y):y.gq true=(y,(oth n k).map λj=>(j,m1 k E 0)):=by
 unfold Nd.gq;rw[if_neg (by rw[h.up];simp)];have e:y.ic true=(y,(oth n k).map λj=>(j,m1 k E 0)):=by unfold Nd.ic;rw[if_pos h.ph,h.ep];refine Prod.ext rfl ?_;dsimp only;unfold Nd.tell Nd.others oth;rw[h.id,h.no];rfl
 rw[e];dsimp only;rw[if_neg (by rw[h.on];omega),List.append_nil]
def sL(R:Int->Rc)(x:Int->Nd)(i k:Int):Ms:=if(x i).d.ep<(x k).d.ep then m6 k (x i).d.ep (vR R (x i).d.ep).1 (vR R (x i).d.ep).2 else if 0<(vt (x k) (x i).d.ep).pr then m5 k (x i).d.ep 0 (vt (x k) (x i).d.ep).pr else m2 k (x i).d.ep 0 (vt (x k) (x i).d.ep)
section
variable {n i k E:Int} {x:Int->Nd} {R:Int->Rc}
def Sq.ask(h:Sq n R x)(hi:0<=i/\i<n)(j:k∈oth n i):(x k).receive (m1 i (x i).d.ep 0) true=(x k,[(i,sL R x i k)]):=by
 obtain⟨⟨g,k1⟩,m⟩:=oth_mem.1 j;have q:=h.q k g k1;have o:(x k).receive (m1 i (x i).d.ep 0) true=(x k).ku i ((x k).iy (m1 i (x i).d.ep 0) true):=by unfold Nd.receive;rw[if_neg (by show¬((x k).5=true∨i=(x k).id∨(x k).2<=i);rw[q.up,q.id,q.no];simp;omega),if_pos (show(m1 i (x i).d.ep 0).k=1∨(m1 i (x i).d.ep 0).k=3 from .inl rfl)];rfl
 rw[o];unfold Nd.iy sL;by_cases c:(x i).d.ep<(x k).d.ep;·rw[if_pos (show(m1 i (x i).d.ep 0).e<(x k).d.ep from c),if_pos c];unfold Nd.ku;rw[if_neg (by show¬((6:Int)=0);omega),q.id];have:=h.rc k g k1 ((x i).d.ep+1) (by have:=h.l0 i hi.1 hi.2;omega) oG;refine Prod.ext rfl ?_;show[(i,_)]=[(i,_)];congr 2;show({(x k).decision (x i).d.ep with f:=k}:Ms)=_;unfold Nd.decision m6 vR;rw[this]
 ·rw[if_neg (show¬(m1 i (x i).d.ep 0).e<(x k).d.ep from c),if_neg c];have r:=h.pr k g k1 (x i).d.ep oG;unfold vt at*;by_cases a:0<(dJ (x k).d.3 (x i).d.ep).pr;·rw[if_pos (show(m1 i (x i).d.ep 0).b<(dJ (x k).d.3 (m1 i (x i).d.ep 0).e).pr from a),if_pos a];unfold Nd.ku;rw[if_neg (by show¬((5:Int)=0);omega),q.id];rfl
  ·rw[if_neg (show¬(m1 i (x i).d.ep 0).b<(dJ (x k).d.3 (m1 i (x i).d.ep 0).e).pr from a),if_neg a];dsimp only;have l:((dJ (x k).d.3 (m1 i (x i).d.ep 0).e).after (m1 i (x i).d.ep 0).k (m1 i (x i).d.ep 0).b (m1 i (x i).d.ep 0).p (m1 i (x i).d.ep 0).s).nk (dJ (x k).d.3 (m1 i (x i).d.ep 0).e)=true:=by show(({dJ (x k).d.3 (x i).d.ep with pr:=0}:PV)).nk (dJ (x k).d.3 (x i).d.ep)=true;unfold PV.nk;have:(dJ (x k).d.3 (x i).d.ep).pr=0:=oG;simp[this]
   rw[if_pos l,if_neg (by show¬((1:Int)=3);omega)];unfold Nd.ku;rw[if_neg (by show¬((2:Int)=0);omega),q.id];rfl
def jw(R:Int->Rc)(x:Int->Nd)(d:Int->Bool)(i:Int):Nd:=if d i=true then iG (x i) (vR R (x i).d.ep) else x i
def ND(h:Sq n R x)(hi:0<=i/\i<n)(m:k∈oth n i){y:Nd}(hy:y=x i∨(y=iG (x i) (vR R (x i).d.ep))):y.receive (sL R x i k) true=(if(x i).d.ep<(x k).d.ep then iG (x i) (vR R (x i).d.ep) else y,[]):=by
 obtain⟨⟨j,k1⟩,f⟩:=oth_mem.1 m;have q:=h.q i hi.1 hi.2;have a:y.5=false/\y.id=i/\y.2=n/\y.ph=0:=by
  rcases hy with rfl|rfl;·exact⟨q.up,q.id,q.no,q.ph⟩
  ·exact⟨q.up,q.id,q.no,rfl⟩
 unfold sL;by_cases c:(x i).d.ep<(x k).d.ep
 ·rw[if_pos c,if_pos c];have l:=h.fo k j k1 (x i).d.ep (h.l0 i hi.1 hi.2) c;have g:=h.rc i hi.1 hi.2 (x i).d.ep (h.l0 i hi.1 hi.2) (Int.le_refl _);rcases hy with rfl|rfl;·exact q.decided ⟨j,k1⟩ (λb=>f b.symm) (by rw[g];exact l)
  ·unfold Nd.receive;rw[if_neg (by show¬((iG (x i) (vR R (x i).d.ep)).5=true∨k=(iG (x i) (vR R (x i).d.ep)).id∨(iG (x i) (vR R (x i).d.ep)).2<=k);rw[a.1,a.2.1,a.2.2.1];simp;omega),if_neg (by show¬((6:Int)=1∨(6:Int)=3);omega),if_neg (by show¬((6:Int)=2);omega),if_neg (by show¬((6:Int)=4);omega),if_neg (by show¬((6:Int)=5);omega),if_pos (show(m6 k (x i).d.ep (vR R (x i).d.ep).1 (vR R (x i).d.ep).2).k=6 from rfl)];unfold Nd.decided;rw[if_neg];intro b;have e:=(sW b).2.2.1;have o:=(xM (d:=(x i).d) (E:=(x i).d.ep+1) (p:=(vR R (x i).d.ep).1) (s:=(vR R (x i).d.ep).2) rfl).1;rw[vG,rW,o.2.2]at e;have e:(x i).d.ep+1=(x i).d.ep+1+1:=e;omega
 ·rw[if_neg c,if_neg c];split;·unfold Nd.receive;rw[if_neg (by show¬(y.5=true∨k=y.id∨y.2<=k);rw[a.1,a.2.1,a.2.2.1];simp;omega),if_neg (by show¬((5:Int)=1∨(5:Int)=3);omega),if_neg (by show¬((5:Int)=2);omega),if_neg (by show¬((5:Int)=4);omega),if_pos (show(m5 k (x i).d.ep 0 (vt (x k) (x i).d.ep).pr).k=5 from rfl)];unfold Nd.refused;rw[if_neg (λb=>by have:(0:Int)<0:=b.2.2;omega)]
  ·exact EI (n:=n) (i:=i) a.2.1 a.2.2.1 (by rw[a.2.2.2];omega) _
def B8(h:Sq n R x):∀(l:List (Int×Int)) (d:Int->Bool),(∀z∈l,(0<=z.1/\z.1<n)/\z.2∈oth n z.1)->passA (jw R x d) (l.map λz=>(z.1,sL R x z.1 z.2))=(jw R x (λi=>d i || l.any (λz=>z.1==i&&decide ((x z.1).d.ep<(x z.2).d.ep))),[])
 | [],d,_=>by simp[passA]
 |z::l,d,hl=>by
  obtain⟨g,f⟩:=hl z List.mem_cons_self;have hy:jw R x d z.1=x z.1∨jw R x d z.1=iG (x z.1) (vR R (x z.1).d.ep):=by
   unfold jw;split;·exact .inr rfl
   ·exact .inl rfl
  rw[List.map_cons,rC];dsimp only;rw[ND h g f hy];dsimp only;have e:upd (jw R x d) z.1 (if(x z.1).d.ep<(x z.2).d.ep then iG (x z.1) (vR R (x z.1).d.ep) else jw R x d z.1)=jw R x (λi=>d i || (z.1==i&&decide ((x z.1).d.ep<(x z.2).d.ep))):=by
   funext j;by_cases a:j=z.1
   ·subst a;rw[upd_self];unfold jw;by_cases c:(x z.1).d.ep<(x z.2).d.ep;·simp[c]
    ·simp[c]
   ·rw[upd_ne a];unfold jw;have:(z.1==j)=false:=by rw[beq_eq_false_iff_ne];exact λb=>a b.symm
    simp[this]
  rw[e,B8 h l _ (λy hy=>hl y (List.mem_cons_of_mem _ hy))];refine Prod.ext ?_ rfl;dsimp only;congr 1;funext j;simp[List.any_cons,Bool.or_assoc]
def prs(n:Int):List (Int×Int):=((List.range n.toNat).map Int.ofNat).flatMap λi=>(oth n i).map λk=>(i,k)
def prs_mem{z:Int×Int}:z∈prs n↔(0<=z.1/\z.1<n)/\z.2∈oth n z.1:=by
 unfold prs;simp only[List.mem_flatMap,List.mem_map,List.mem_range];constructor;·rintro⟨i,⟨q,c,rfl⟩,k,a,rfl⟩;exact⟨by show 0<=(q:Int)/\(q:Int)<n;omega,a⟩
 ·rintro⟨d,b⟩;exact⟨z.1,⟨z.1.toNat,oG,by show((z.1.toNat:Nat):Int)=z.1;omega⟩,z.2,b,rfl⟩
def NE{α:Type}{l:List α}{f:α->List (Int×Ms)}{g:α->Int×Ms}(h:∀k∈l,f k=[g k]):l.flatMap f=l.map g:=by
 induction l with
 |nil=>rfl
 |cons k l ih=>rw[List.flatMap_cons,List.map_cons,h k List.mem_cons_self,ih (λj a=>h j (List.mem_cons_of_mem _ a))];rfl
def cntA:Nat->(Int->Nd)×List (Int×Ms)->Nat
  |0,_=>0
  |m+1,s=>if s.2.length=0 then 0 else s.2.length+cntA m (passA s.1 s.2)
def NF(x:Int->Nd):∀m,cntA m (x,[])=0
 |0=>rfl
 |_+1=>if_pos rfl
def Sq.round(h:Sq n R x){l:List (Int×Int)}(b:∀z∈l,(0<=z.1/\z.1<n)/\z.2∈oth n z.1)(m:l≠[])(o:l.length<=1000)(M:Nat):∃d:Int->Bool,RunA n (M+2) (x,l.map λz=>(z.2,m1 z.1 (x z.1).d.ep 0)) (jw R x d,[])/\cntA (M+2) (x,l.map λz=>(z.2,m1 z.1 (x z.1).d.ep 0))=2*l.length/\∀i,d i=true↔∃z∈l,z.1=i/\(x z.1).d.ep<(x z.2).d.ep:=by
 have ne:∀{f:Int×Int->Int×Ms},l.map f≠[]:=λj=>m (List.map_eq_nil_iff.1 j);have e:=BE (l.map λz=>(z.2,m1 z.1 (x z.1).d.ep 0)) x (λz a=>by obtain⟨w,c,rfl⟩:=List.mem_map.1 a;rw[h.ask (b w c).1 (b w c).2])
 rw[List.flatMap_map,NE (g:=λz=>(z.1,sL R x z.1 z.2)) (λz a=>by rw[h.ask (b z a).1 (b z a).2])]at e;have p2:=B8 h l (λ_=>false) b;have p:jw R x (λ_=>false)=x:=by funext i;simp[jw]
 rw[p]at p2;have k:l.length≠0:=λj=>m (List.length_eq_zero_iff.1 j);refine⟨_,.go ne (by rw[List.length_map];exact o) (λz a=>?_) e (.go ne (by rw[List.length_map];exact o) (λz a=>?_) p2 (.nil _ _ _)),?_,λi=>?_⟩;·obtain⟨w,c,rfl⟩:=List.mem_map.1 a;exact(oth_mem.1 (b w c).2).1
 ·obtain⟨w,c,rfl⟩:=List.mem_map.1 a;exact(b w c).1
 ·unfold cntA;rw[if_neg (by rw[List.length_map];exact k),e];unfold cntA;rw[if_neg (by rw[List.length_map];exact k),p2,NF,List.length_map,List.length_map];omega
 ·simp only[Bool.false_or,List.any_eq_true,Bool.and_eq_true,beq_iff_eq,decide_eq_true_eq]
def prs_len(b:2<=n/\n<=5):0<(prs n).length/\(prs n).length<=20:=by have a:n=2∨n=3∨n=4∨n=5:=oG;rcases a with rfl|rfl|rfl|rfl<;>decide
def Sq.jw(h:Sq n R x)(d:Int->Bool){i:Int}(a:0<=i)(b:i<n):Qn n i (AG.jw R x d i).d.ep (AG.jw R x d i)/\(AG.jw R x d i).d.ep=if d i=true then(x i).d.ep+1 else(x i).d.ep:=by
 have q:=h.q i a b;unfold AG.jw;split;·refine⟨⟨q.id,?_,q.no,q.up,rfl,rfl,q.rs,rfl⟩,by rw[vG]⟩;rw[rW];exact q.di
 ·exact⟨q,rfl⟩
end
end AG
namespace AG
def m9(i E q:Int)(zs:List Int):Ms:={Ms.nil with k:=9,f:=i,e:=E,q:=q,zs:=zs}
def gF(j E q:Int):Ms:={Ms.nil with k:=10,f:=j,e:=E,q:=q}
section
variable {n i j E B:Int} {x:Int->Nd} {rE:Rc}
def Sy.admi(h:Sy n E rE B x)(hn:2<=n/\n<=5)(hi:0<=i/\i<n)(hj:j∈oth n i)(w:∀k,0<=k->k<n->vt (x k) E=⟨0,0,0,0⟩)(ah:(x i).act=true)(hr:rE.P=i+1/\rE.S=2 ^ i.toNat)(ae:(x i).d.last≠1000000000000)(ar:(x j).d.seen<E)(ak:(x i).nb=(x j).nb/\0<=(x j).nb)(ab:folB rE (E+1) (i+1) (2 ^ i.toNat+2 ^ j.toNat)=true):((x i).admi j true).2.2=0/\∃x5,RunA n 9 (upd x i ((x i).admi j true).1,((x i).admi j true).2.1) (x5,[])/\(∀k,¬(0<=k/\k<n)->x5 k=x k)/\(∀k,0<=k->k<n->∃y,Le n k E (i+1,2 ^ i.toNat+2 ^ j.toNat) y (x5 k)/\(∀e,E<e->vt y e=⟨0,0,0,0⟩)/\y.d.seen<=E/\(k≠j->y.d.bk=(x k).d.bk)/\y.ops=(x k).ops/\y.nb=(x k).nb)/\∀b,0<=b->b<(x i).nb->(x5 j).d.bk b=(x i).d.bk b:=by
 obtain⟨⟨W,L⟩,a0⟩:=oth_mem.1 hj;have q:=h.q i hi.1 hi.2;have K:=h.q j W L;have N:=h.rc i hi.1 hi.2;have bitn:¬eU rE.S j.toNat=true:=by rw[hr.2];have h5:∀a b:Fin 5,a≠b->eU (2 ^ a.val:Int) b.val=false:=dG;have:=h5 ⟨i.toNat,oG⟩ ⟨j.toNat,oG⟩ (λC=>a0 (by have:=congrArg Fin.val C;simp only at this;omega));rw[this];simp
 have a7:(x i).adm j=true:=by
  unfold Nd.adm;rw[q.ep,N,q.no,decide_eq_true (by omega:0<=j/\j<n)];cases hb:eU rE.S j.toNat;·rfl
  ·exact absurd hb bitn
 have jl:(x i).jl ((x i).adm j)=0:=by unfold Nd.jl;rw[a7,if_neg (by rw[q.up];simp),if_neg (by rw[ah];simp),if_neg (by simp;exact ae),if_neg (by rw[q.ph,q.on];simp)]
 obtain⟨Q,hQ⟩:∃Q,Q=(x i).d.last+1:=⟨_,rfl⟩;obtain⟨r,a2⟩:∃r,r=(x i).fq.zs:=⟨_,rfl⟩;obtain⟨c,D⟩:∃c:Nd,c={(x i).save {(x i).fq with q:=(x i).d.last+1} true with ph:=1,jo:=j,gP:=((x i).d.rc (x i).d.ep).P,gS:=((x i).d.rc (x i).d.ep).S+2 ^ j.toNat,ba:=0,rf:=0,fo:=.nil,an:=[]}:=⟨_,rfl⟩;have ha:(x i).admi j true=(c,[(j,m9 i E Q r)],0):=by unfold Nd.admi;rw[if_neg (by rw[jl];simp)];dsimp only;rw[if_pos rfl,←D];refine Prod.ext rfl (Prod.ext ?_ rfl);show[(j,_)]=[(j,_)];congr 2;show({({(x i).fq with q:=(x i).d.last+1}:Ms) with f:=(x i).id}:Ms)=_;rw[a2,hQ];unfold Nd.fq m9;rw[q.id,q.ep]
 rw[ha];refine⟨rfl,?_⟩;dsimp only;have U:c.d=(x i).d.step {(x i).fq with q:=(x i).d.last+1}:=by rw[D];rfl
 obtain⟨s1,s2,s3,s4,s5⟩:=step79 (x i).d (m:={(x i).fq with q:=(x i).d.last+1}) (.inr rfl);rw[←U]at s1 s2 s3 s4 s5;have yE:c.d.ep=E:=by unfold Du.ep;rw[s1];exact q.ep
 have a9:c.d.seen=E:=s4.trans q.ep;have aj:c.d.last=Q:=by rw[hQ];exact s5
 have ap:∀b,0<=b->b<(x i).nb->c.d.bk b=(x i).d.bk b:=λb O b1=>by
  have e:c.d.bk b=(x i).fq.zs.getD b.toNat ((x i).d.bk b):=by rw[U];simp[Du.step,Nd.fq,O]
  rw[e];exact xL (x i) O b1
 have s:c.id=i/\c.2=n/\c.5=false/\c.on=0/\c.res=[]/\c.ph=1/\c.jo=j/\c.gP=i+1/\c.gS=2 ^ i.toNat+2 ^ j.toNat/\c.rf=0/\c.d.id=i:=by rw[D,q.ep,N,hr.1,hr.2];refine⟨q.id,q.no,q.up,q.on,q.rs,rfl,rfl,rfl,rfl,rfl,?_⟩;rw[D]at s3;rw[q.ep,N]at s3;exact s3.trans q.di
 have F:∀e,vt c e=vt (x i) e:=λe=>by unfold vt;rw[s2]
 have a3:(r.length:Int)=(x j).nb:=by rw[a2,←ak.1];simp[Nd.fq];omega
 obtain⟨o,l⟩:∃o:Nd,o=((x j).save (m9 i E Q r) true).stand:=⟨_,rfl⟩;have r1:(x j).receive (m9 i E Q r) true=(o,[(i,gF j E Q)]):=by
  unfold Nd.receive;rw[if_neg (by show¬((x j).5=true∨i=(x j).id∨(x j).2<=i);rw[K.up,K.id,K.no];simp;omega),if_neg (by show¬((9:Int)=1∨(9:Int)=3);omega),if_neg (by show¬((9:Int)=2);omega),if_neg (by show¬((9:Int)=4);omega),if_neg (by show¬((9:Int)=5);omega),if_neg (by show¬((9:Int)=6);omega),if_pos (show(m9 i E Q r).k=7∨(m9 i E Q r).k=9 from .inr rfl)];have a5:(x j).fits (m9 i E Q r)=true:=by unfold Nd.fits mK;rw[if_pos (show(m9 i E Q r).k=9 from rfl)];show(((r.length:Nat):Int)==(x j).nb)=true;rw[a3];simp
  have X:(m9 i E Q r).e≠(x j).d.seen:=by show E≠(x j).d.seen;omega
  unfold Nd.update;rw[if_neg (by rw[a5];simp;exact λC=>absurd C X),if_neg (by show¬E<(x j).d.seen;omega)];dsimp only;rw[if_neg (λC=>X C.1),if_pos rfl,if_neg X,←l];unfold Nd.ku;rw[if_neg (by show¬((9:Int)+1=0);omega),K.id];rfl
 have p1:passA (upd x i c) [(j,m9 i E Q r)]=(upd (upd x i c) j o,[(i,gF j E Q)]):=by rw[rC];dsimp only;rw[upd_ne a0,r1];simp[passA]
 obtain⟨t1,t2,t3,t4,t5⟩:=step79 (x j).d (m:=m9 i E Q r) (.inr rfl);have jd:o.d=(x j).d.step (m9 i E Q r):=by rw[l];rfl
 rw[←jd]at t1 t2 t3 t4 t5;have a6:o.d.seen=E:=t4;have jE:o.d.ep=E:=by unfold Du.ep;rw[t1];exact K.ep
 have jq:Qn n j E o:=⟨by rw[l];exact K.id,t3.trans K.di,by rw[l];exact K.no,by rw[l];exact K.up,by rw[l];rfl,by rw[l];rfl,by rw[l];exact K.rs,jE⟩;obtain⟨y2,b,d1,d2,d3,d4,d5,d6,d7,d8,d9,al,ao,aq,am⟩:=yY (n:=n) (i:=i) (E:=E) (y:={c with ph:=2}) s.2.2.1 s.1 oG s.2.1 yE (by show 0<=(vt c E).pr;rw[F,w i hi.1 hi.2];exact Int.le_refl _) (by
  show kF (dJ c.d.3 c.d.ep).pr c.rf c.id<=_;have e1:(dJ c.d.3 c.d.ep).pr=0:=by rw[yE];show(vt c E).pr=0;rw[F,w i hi.1 hi.2]
  rw[e1,s.2.2.2.2.2.2.2.2.2.1,s.1];unfold kF;split<;>omega)
 have r2:c.receive (gF j E Q) true=(y2,(oth n i).map λk=>(k,m1 i E b)):=by unfold Nd.receive;rw[if_neg (by show¬(c.5=true∨j=c.id∨c.2<=j);rw[s.2.2.1,s.1,s.2.1];simp;omega),if_neg (by show¬((10:Int)=1∨(10:Int)=3);omega),if_neg (by show¬((10:Int)=2);omega),if_neg (by show¬((10:Int)=4);omega),if_neg (by show¬((10:Int)=5);omega),if_neg (by show¬((10:Int)=6);omega),if_neg (by show¬((10:Int)=7∨(10:Int)=9);omega),if_neg (by show¬((10:Int)=8);omega),if_pos (show(gF j E Q).k=10 from rfl)];unfold Nd.copied;rw[if_pos ⟨s.2.2.2.2.2.1,s.2.2.2.2.2.2.1.symm,yE.symm,aj.symm⟩];exact d1
 have a8:i≠j:=λC=>a0 C.symm;have p2:passA (upd (upd x i c) j o) [(i,gF j E Q)]=(upd (upd (upd x i c) j o) i y2,(oth n i).map λk=>(k,m1 i E b)):=by rw[rC];dsimp only;rw[upd_ne a8,upd_self,r2];simp[passA]
 obtain⟨t,p⟩:∃t:Nd,t=(x i).save {(x i).fq with q:=(x i).d.last+1} true:=⟨_,rfl⟩;have u:t.d=c.d:=by rw[p,U];rfl
 have iq:Qn n i E t:=⟨by rw[p];exact q.id,by rw[u];exact s.2.2.2.2.2.2.2.2.2.2,by rw[p];exact q.no,by rw[p];exact q.up,by rw[p];exact q.ph,by rw[p];exact q.on,by rw[p];exact q.rs,by rw[u];exact yE⟩;have M:upd (upd x i t) j o i=t:=by rw[upd_ne a8,upd_self]
 have aa:upd (upd x i t) j o j=o:=upd_self _ _ _;have ad:∀k,k≠i->k≠j->upd (upd x i t) j o k=x k:=λk h1 h2=>by rw[upd_ne h2,upd_ne h1]
 have all:∀{P:Int->Nd->Prop},P i t->P j o->(∀k,0<=k->k<n->k≠i->k≠j->P k (x k))->∀k,0<=k->k<n->P k (upd (upd x i t) j o k):=λ{P} h1 h2 h3 k g k1=>by
  by_cases H:k=i;·subst H;rw[M];exact h1
  ·by_cases R:k=j;·subst R;rw[aa];exact h2
   ·rw[ad k H R];exact h3 k g k1 H R
 have A:∀e,vt t e=vt (x i) e:=λe=>by unfold vt;rw[u];exact F e
 have V:∀e,vt o e=vt (x j) e:=λe=>by unfold vt;rw[t2]
 have S2:Sy n E rE 0 (upd (upd x i t) j o):=by
  refine⟨all (P:=λk y=>Qn n k E y) iq jq (λk g k1 _ _=>h.q k g k1),all (P:=λk y=>y.d.rc E=rE) ?_ ?_ (λk g k1 _ _=>h.rc k g k1),all (P:=λk y=>0<=(vt y E).pr/\(vt y E).pr<=0) ?_ ?_ (λk g k1 _ _=>by rw[w k g k1];exact⟨Int.le_refl _,Int.le_refl _⟩),all (P:=λk y=>0<(vt y E).ac->folB rE (E+1) (vt y E).pm (vt y E).st=true) ?_ ?_ (λk g k1 _ _=>h.vk k g k1),all (P:=λk y=>∀e,E<e->vt y e=⟨0,0,0,0⟩) ?_ ?_ (λk g k1 _ _=>h.fr k g k1),all (P:=λk y=>y.d.seen<=E) ?_ ?_ (λk g k1 _ _=>h.se k g k1),h.l0⟩;·unfold Du.rc;rw[u,s1];exact N
  ·unfold Du.rc;rw[t1];exact h.rc j W L
  ·rw[A,w i hi.1 hi.2];exact⟨Int.le_refl _,Int.le_refl _⟩
  ·rw[V,w j W L];exact⟨Int.le_refl _,Int.le_refl _⟩
  ·rw[A];exact h.vk i hi.1 hi.2
  ·rw[V];exact h.vk j W L
  ·intro e he;rw[A];exact h.fr i hi.1 hi.2 e he
  ·intro e he;rw[V];exact h.fr j W L e he
  ·rw[u,a9];exact Int.le_refl _
  ·rw[a6];exact Int.le_refl _
 have ag:upd (upd (upd x i c) j o) i y2=upd (upd (upd x i t) j o) i y2:=by
  funext k;by_cases H:k=i;·subst H;rw[upd_self,upd_self]
  ·rw[upd_ne H,upd_ne H];by_cases R:k=j;·subst R;rw[upd_self,upd_self]
   ·rw[upd_ne R,upd_ne R,upd_ne H,upd_ne H]
 have ai:Wy t y2:=by
  have:Wy t {c with ph:=2}:=by rw[D,p];rfl
  exact this.trans d3
 have af:(vt ({c with ph:=2}:Nd) E)=⟨0,0,0,0⟩:=by show vt c E=_;rw[F];exact w i hi.1 hi.2
 rw[af]at d6;have run:=Sy.run 2 S2 hn.1 hn.2 hi al d2 (by rw[M];exact ai) (λe he=>by rw[M,d4 e he,A];exact F e) (by rw[M,A,w i hi.1 hi.2];exact d6) (by rw[d7,d8];show folB rE (E+1) c.gP c.gS=true;rw[s.2.2.2.2.2.2.2.1,s.2.2.2.2.2.2.2.2.1];exact ab) (by rw[d9];show c.rf<=0;rw[s.2.2.2.2.2.2.2.2.2.1];exact Int.le_refl _);rw[←ag]at run;have a4:∀k,0<=k->k<n->vt (upd (upd x i t) j o k) E=⟨0,0,0,0⟩:=all (P:=λk y=>vt y E=⟨0,0,0,0⟩) (by rw[A];exact w i hi.1 hi.2) (by rw[V];exact w j W L) (λk g k1 _ _=>w k g k1);rcases run with⟨x2,_,st⟩|⟨x5,v,H,R,c3,c4⟩;·exfalso;obtain⟨k,hk,a1⟩:=st.hi;rw[a4 k (oth_mem.1 hk).1.1 (oth_mem.1 hk).1.2]at a1;have a1:b<0:=a1;omega
 ·have hv:v=(i+1,2 ^ i.toNat+2 ^ j.toNat):=by rw[R.2 (λk g k1=>by rw[a4 k g k1];exact Int.le_refl _),d7,d8];show(c.gP,c.gS)=_;rw[s.2.2.2.2.2.2.2.1,s.2.2.2.2.2.2.2.2.1]
  subst hv;refine⟨x5,?_,λk hk=>?_,λk g k1=>⟨_,c4 k g k1,S2.fr k g k1,?_⟩,λb O b1=>?_⟩;·exact .go sG sG (λz w=>by have:z=(j,m9 i E Q r):=(by simpa using w);rw[this];exact⟨W,L⟩) p1 (.go sG sG (λz w=>by have:z=(i,gF j E Q):=(by simpa using w);rw[this];exact hi) p2 H)
  ·rw[c3 k hk,ad k (λC=>hk (C ▸ hi)) (λC=>hk (C ▸ ⟨W,L⟩))]
  ·refine all (P:=λk y=>y.d.seen<=E/\(k≠j->y.d.bk=(x k).d.bk)/\y.ops=(x k).ops/\y.nb=(x k).nb) ⟨?_,λ_=>?_,?_,?_⟩ ⟨?_,λC=>absurd rfl C,?_,?_⟩ (λk g k1 _ _=>⟨h.se k g k1,λ_=>rfl,rfl,rfl⟩) k g k1;·rw[u,a9];exact Int.le_refl _
   ·funext b;rw[u,U];by_cases O:0<=b
    ·have e:((x i).d.step {(x i).fq with q:=(x i).d.last+1}).bk b=(x i).fq.zs.getD b.toNat ((x i).d.bk b):=by simp[Du.step,Nd.fq,O]
     rw[e];by_cases b1:b<(x i).nb;·exact xL (x i) O b1
     ·rw[List.getD_eq_getElem?_getD,List.getElem?_eq_none (by simp[Nd.fq];omega)];rfl
    ·simp[Du.step,Nd.fq,O]
   ·rw[p];rfl
   ·rw[p];rfl
   ·rw[a6];exact Int.le_refl _
   ·rw[l];rfl
   ·rw[l];rfl
  ·rw[(c4 j W L).bk,aa,jd];have e:((x j).d.step (m9 i E Q r)).bk b=r.getD b.toNat ((x j).d.bk b):=by simp[Du.step,m9,O]
   rw[e,a2];exact xL (x i) O b1
end
end AG
namespace AG
def mS(n:Int)(x:Int->Nd)(R:Int->Rc)(e:Int):Prop:=0<=e/\∃j,0<=j/\j<n/\bit (R e).S j/\e<=(x j).d.ep
def Mb(B:Int)(K:Int->Prop)(m:Ms):Prop:=m.b<=B/\(m.k=5->m.wa<=B)/\(m.k=1/\0<m.b∨m.k=3->0<m.b/\K m.e)
structure eO(B:Int)(K S:Int->Prop)(y:Nd):Prop where
  vo:∀e,y.d.ep<=e->(vt y e).pr<=B/\(vt y e=⟨0,0,0,0⟩∨0<(vt y e).pr/\K e)
  ba:y.ba<=B
  rf:y.rf<=B
  ph:y.ph≠0->S y.d.ep
  tr:y.5=true->y.tr.k=1∨y.tr.k=3->y.tr.b<=B/\0<y.tr.b/\K y.tr.e
  ow:0<y.on->y.ow.k=7/\y.ow.b=0
structure BI(n:Int)(x:Int->Nd)(sn:Ms->Prop)(R:Int->Rc)(B:Int):Prop where
  b0:0<=B
  nd:∀k,0<=k->k<n->eO B (mS n x R) (λe=>bit (R e).S k) (x k)
  ms:∀m,sn m->Mb B (mS n x R) m
section
variable {B B':Int} {K K' S S':Int->Prop} {y:Nd} {m:Ms}
def Mb.up(h:Mb B K m)(b:B<=B')(c:∀e,K e->K' e):Mb B' K' m:=⟨Int.le_trans h.1 b,λa=>Int.le_trans (h.2.1 a) b,λa=>⟨(h.2.2 a).1,c _ (h.2.2 a).2⟩⟩
def eO.up(h:eO B K S y)(b:B<=B')(g:∀e,K e->K' e)(hS:S y.d.ep->S' y.d.ep):eO B' K' S' y:=⟨λe f=>⟨Int.le_trans (h.vo e f).1 b,(h.vo e f).2.imp id (λa=>⟨a.1,g _ a.2⟩)⟩,Int.le_trans h.ba b,Int.le_trans h.rf b,λa=>hS (h.ph a),λa c=>⟨Int.le_trans (h.tr a c).1 b,(h.tr a c).2.1,g _ (h.tr a c).2.2⟩,h.ow⟩
def jU(B:Int)(K:Int->Prop)(l:List (Int×Ms)):Prop:=∀z∈l,Mb B K z.2
def jU.nil:jU B K []:=by simp[jU]
def jU.tell(y:Nd)(l:List Int)(h:Mb B K m):jU B K (y.tell m l):=kJ λ_=>h
def oA(e:0<=B)(d:m.b=0)(f:m.k≠3)(c:m.k≠5):Mb B K m:=⟨oG,λa=>absurd a c,λa=>oG⟩
def eO.stand(h:eO B K S y)(j:0<=B){a:Nd}(g:∀e,a.d.ep<=e->y.d.ep<=e/\vt a e=vt y e)(l:a.ph=0)(n:a.ba=0)(m:a.rf=0)(o:a.on=0)(c:a.5=true->a.tr.k=1∨a.tr.k=3->a.tr.b<=B/\0<a.tr.b/\K a.tr.e):eO B K S a:=⟨λe i=>by rw[(g e i).2];exact h.vo e (g e i).1,by rw[n];exact j,by rw[m];exact j,λf=>absurd l f,c,λf=>oG⟩
def eO.fall(h:eO B K S y)(c:0<=B)(a:m.k=1∨m.k=3->m.b<=B/\0<m.b/\K m.e):eO B K S (y.fall m):=h.stand c (λe d=>⟨d,rfl⟩) rfl rfl rfl rfl (λ_=>a)
def eO.iy(h:eO B K S y)(j:0<=B)(v:y.5=false)(c:m.k=1∨m.k=3)(f:Mb B K m)(ok:Bool):eO B K S (y.iy m ok).1/\Mb B K (y.iy m ok).2/\(y.iy m ok).1.d.ep=y.d.ep:=by
 unfold Nd.iy;split;·exact⟨h,oA j rfl (by show(6:Int)≠3;omega) (by show(6:Int)≠5;omega),rfl⟩
 next c1=>
 split;·exact⟨h,⟨f.1,λ_=>(h.vo m.e oG).1,λa=>by rcases a with⟨a,_⟩|a<;>simp at a⟩,rfl⟩
 next c2=>
 dsimp only;have o:∀{p q:Ms},p.k=4->p.b=m.b->q.k=2->q.b=m.b->Mb B K (if m.k=3 then p else q):=by
  intro p q A u x w;split;·exact⟨by rw[u];exact f.1,λa=>oG,λa=>oG⟩
  ·exact⟨by rw[w];exact f.1,λa=>oG,λa=>oG⟩
 split;·exact⟨h,o rfl rfl rfl rfl,rfl⟩
 next c3=>
 have n:0<m.b/\K m.e:=by
  rcases c with c|c
  ·refine f.2.2 (.inl ⟨c,?_⟩);have l:=(h.vo m.e oG).2;apply Classical.byContradiction;intro z;apply c3;have r:0<=(vt y m.e).pr:=by
    rcases l with a|a;·rw[a];exact Int.le_refl _
    ·omega
   have t:(dJ y.d.3 m.e).pr=m.b:=by unfold vt at r;omega
   unfold PV.after PV.nk;rw[if_neg oG];simp[t]
  ·exact f.2.2 (.inr c)
 split
 ·have hs:(y.save m true).d={y.d with kv:=f8 y.d.3 m.e ((dJ y.d.3 m.e).after m.k m.b m.p m.s)}:=by rcases c with c|c<;>simp[Nd.save,Du.step,c]
  have g:(y.save m true).d.ep=y.d.ep:=by rw[hs];rfl
  refine⟨⟨λe i=>?_,h.ba,h.rf,λa=>by rw[g];exact h.ph a,h.tr,h.ow⟩,o rfl rfl rfl rfl,g⟩;rw[g]at i;have l:vt (y.save m true) e=if e=m.e then(dJ y.d.3 m.e).after m.k m.b m.p m.s else vt y e:=by unfold vt;rw[hs];exact vmGet_put _ _ _ _
  rw[l];split
  ·next i=> 
   have:((dJ y.d.3 m.e).after m.k m.b m.p m.s).pr=m.b:=by unfold PV.after;split<;>rfl
   rw[this,i];exact⟨f.1,.inr n⟩
  ·exact h.vo e i
 ·exact⟨h.fall j (λ_=>⟨f.1,n⟩),oA j rfl (by show(0:Int)≠3;omega) (by show(0:Int)≠5;omega),rfl⟩
def eO.decided(h:eO B K S y)(c:0<=B)(b:y.5=false)(f:m.k=6)(i:folB (y.d.rc y.d.ep) (m.e+1) m.p m.s=true->m.e=y.d.ep)(ok:Bool):eO B K S (y.decided m ok).1:=by
 unfold Nd.decided;split
 ·next hf=>
  split
  ·refine h.stand c (λe a=>?_) rfl rfl rfl rfl (λa=>by have a:y.5=true:=a;rw[b]at a;simp at a);have hs:(y.save m true).d=y.d.learn (m.e+1) m.p m.s:=by simp[Nd.save,Du.step,f]
   have a:(y.save m true).d.ep<=e:=a;have g:(y.save m true).d.ep=y.d.ep+1:=by rw[hs];simp[Du.learn,Du.ep]
   refine⟨oG,?_⟩;show dJ (y.save m true).d.3 e=dJ y.d.3 e;rw[hs];show dJ (fT y.d.3 (m.e+1 - 1)) e=_;rw[vmGet_del _ _ _ (by have:=i hf;omega)]
  ·exact h.fall c (λa=>oG)
 ·exact h
def eO.ko(h:eO B K S y){a:Nd}(i:a.d=y.d)(c:a.ba<=B)(g:a.rf<=B)(e:a.ph≠0->S y.d.ep)(b:a.5=y.5/\a.tr=y.tr)(f:a.on=0∨a.on=y.on/\a.ow=y.ow:=by first|exact .inr ⟨rfl,rfl⟩|exact .inl rfl):eO B K S a:=
  ⟨by unfold vt;rw[i];exact h.vo,c,g,by rw[i];exact e,by rw[b.1,b.2];exact h.tr,λl=>by
    rcases f with j|⟨j,k⟩
    · omega
    · rw[k];exact h.ow oG⟩
def QH{a rf id:Int}(b:a<=B)(d:rf<=B)(c:0<=B)(hi:0<=id/\id<5):kF a rf id<=B+10:=by unfold kF;split<;>omega
def OV{a rf id:Int}(b:0<=a)(hi:0<=id/\id<5):0<kF a rf id:=by unfold kF;split<;>omega
def eO.fu(h:eO B K S y)(q:0<=B)(n:y.5=false)(i:0<=y.id/\y.id<5)(hS:S y.d.ep)(s:S y.d.ep->K y.d.ep)(u:(10:Int)<=B' - B)(ok:Bool)(j:1000000000000<y.fe y.rf->eO B' K S y):eO B' K S (y.fu ok).1/\jU B' K (y.fu ok).2:=by
 have o:=h.vo y.d.ep (Int.le_refl _);have m:0<=(dJ y.d.3 y.d.ep).pr:=by
  rcases o.2 with a|a;·unfold vt at a;rw[a];exact Int.le_refl _
  ·have:=a.1;unfold vt at this;omega
 have r:=QH (id:=y.id) o.1 h.rf q i;have g:=OV (rf:=y.rf) m i;unfold Nd.fu;dsimp only;split;·next c=>exact⟨j c,.nil⟩
 have f:y.fe y.rf<=B':=by unfold Nd.fe;unfold vt at r;omega
 have l:0<y.fe y.rf:=g;have p:Mb B' K {Ms.nil with k:=1,e:=y.d.ep,b:=y.fe y.rf}:=⟨f,λa=>by simp at a,λ_=>⟨l,s hS⟩⟩;obtain⟨v1,t,v3⟩:=(h.up (B':=B') oG (λ_=>id) id).iy oG n (.inl rfl) p ok;split;·exact⟨v1,.nil⟩
 ·refine⟨v1.ko rfl f v1.rf (λ_=>by rw[v3];exact hS) ⟨rfl,rfl⟩,.tell _ _ p⟩
def eO.gy(h:eO B K S y)(q:0<=B)(i:y.5=false)(u:y.ph=2)(r:0<y.ba)(w:S y.d.ep->K y.d.ep)(ok:Bool):eO B K S (y.gy ok).1/\jU B K (y.gy ok).2:=by
 unfold Nd.gy;dsimp only;obtain⟨z,l⟩:∃z:Nd,z=(if 0<y.fo.wa then{y with gP:=y.fo.p,gS:=y.fo.s} else y):=⟨_,rfl⟩;have f:z.d=y.d/\z.5=y.5/\z.ba=y.ba/\z.rf=y.rf/\z.ph=y.ph/\z.tr=y.tr:=by rw[l];split<;>exact⟨rfl,rfl,rfl,rfl,rfl,rfl⟩
 rw[←l];obtain⟨j,n,c,t,A,o⟩:=f;have a:=h.ph oG;have g:eO B K S z:=h.ko j (by rw[c];exact h.ba) (by rw[t];exact h.rf) (λ_=>a) ⟨n,o⟩ (.inr (by rw[l];split<;>exact⟨rfl,rfl⟩));have m:Mb B K {Ms.nil with k:=3,e:=z.d.ep,b:=z.ba,p:=z.gP,s:=z.gS}:=⟨by show z.ba<=B;rw[c];exact h.ba,λv=>by simp at v,λ_=>⟨by show 0<z.ba;rw[c];exact r,by show K z.d.ep;rw[j];exact w a⟩⟩;obtain⟨v1,x,v3⟩:=g.iy q (by rw[n];exact i) (.inr rfl) m ok;split;·exact⟨v1,.nil⟩
 ·exact⟨v1.ko rfl v1.ba v1.rf (λ_=>by rw[v3,j];exact a) ⟨rfl,rfl⟩,.tell _ _ m⟩
def eO.conclude(h:eO B K S y)(b:0<=B)(c:y.5=false)(ok:Bool):eO B K S (y.conclude ok).1/\jU B K (y.conclude ok).2:=by
 unfold Nd.conclude;dsimp only;refine⟨eO.decided (h.ko (a:={y with ph:=0,gP:=0,gS:=0,jo:=0,ba:=0,rf:=0,fo:=.nil,an:=[]}) rfl b b (λd=>absurd rfl d) ⟨rfl,rfl⟩) b c rfl (λ_=>rfl) ok,?_⟩;split;·exact .tell _ _ (oA b rfl (by show(6:Int)≠3;omega) (by show(6:Int)≠5;omega))
 ·exact .nil
def eO.receive(h:eO B K S y)(j:0<=B)(x:0<=y.id/\y.id<5)(D:S y.d.ep->K y.d.ep)(A:∀{E p s},folB (y.d.rc y.d.ep) (E+1) p s=true->E=y.d.ep)(C:Mb B K m)(L:(10:Int)<=B' - B)(ok:Bool):eO B' K S (y.receive m ok).1/\jU B' K (y.receive m ok).2:=by
 have up:∀{a:Nd},eO B K S a->eO B' K S a:=λh=>h.up oG (λ_=>id) id;have g:∀{l},jU B K l->jU B' K l:=λh z M=>(h z M).up oG (λ_=>id);unfold Nd.receive;split;·exact⟨up h,.nil⟩
 next c0=>
 have i:y.5=false:=by
  cases hd:y.5;·rfl
  ·exact absurd (.inl hd) c0
 split
 ·next hk=>
  obtain⟨v1,H,v3⟩:=h.iy j i hk C ok;exact⟨up v1,g (jV λ_=>H)⟩
 split
 ·unfold Nd.promised;split
  ·next c=>
   have r:eO B K S {y with fo:=if y.fo.wa<m.wa then m else y.fo,an:=y.an++[(2,m.e,m.b,m.f)]}:=h.ko rfl h.ba h.rf h.ph ⟨rfl,rfl⟩;dsimp only;split;·have v:=r.gy j i c.1 (by have:=c.2.1;show 0<y.ba;omega) D ok;exact⟨up v.1,g v.2⟩
   ·exact⟨up r,.nil⟩
  ·exact⟨up h,.nil⟩
 split
 ·unfold Nd.accepted;split
  ·have r:eO B K S {y with an:=y.an++[(4,m.e,m.b,m.f)]}:=h.ko rfl h.ba h.rf h.ph ⟨rfl,rfl⟩;dsimp only;split;·have v:=r.conclude j i ok;exact⟨up v.1,g v.2⟩
   ·exact⟨up r,.nil⟩
  ·exact⟨up h,.nil⟩
 split
 ·next h5=>
  unfold Nd.refused;split;·refine⟨up (h.ko rfl h.ba ?_ h.ph ⟨rfl,rfl⟩),.nil⟩;have:=C.2.1 h5;have:=h.rf;show max y.rf m.wa<=B;omega
  ·exact⟨up h,.nil⟩
 split;·next hk=>exact⟨up (h.decided j i hk (λn=>A n) ok),.nil⟩
 split
 ·next hk=>
  have hs:=step79 y.d hk;have u:∀e,(y.d.step m).ep<=e->y.d.ep<=e/\dJ (y.d.step m).3 e=dJ y.d.3 e:=λe w=>by
   refine⟨?_,by rw[hs.2.1]⟩;have:(y.d.step m).ep=y.d.ep:=by unfold Du.ep;rw[hs.1]
   omega
  unfold Nd.update;split;·exact⟨up h,by simp[Nd.ku,Ms.nil,jU]⟩
  split
  ·refine⟨up h,g (jV λ_=>?_)⟩;dsimp only;split;·exact oA j rfl (by show(6:Int)≠3;omega) (by show(6:Int)≠5;omega)
   ·exact oA j rfl (by show(0:Int)≠3;omega) (by show(0:Int)≠5;omega)
  dsimp only;have t:∀{f:Int},Mb B K {({Ms.nil with k:=m.k+1,e:=m.e,q:=m.q}:Ms) with f:=f}:=oA j rfl (by dsimp only;omega) (by dsimp only;omega);split;·exact⟨up h,g (jV λ_=>t)⟩
  split
  ·refine⟨up ?_,g (jV λ_=>t)⟩;show eO B K S (if m.e=y.d.seen then y.save m true else(y.save m true).stand);split
   ·refine⟨λe w=>by rw[show vt (y.save m true) e=vt y e from(u e w).2];exact h.vo e (u e w).1,h.ba,h.rf,λn=>?_,h.tr,h.ow⟩;have:(y.save m true).d.ep=y.d.ep:=by show(y.d.step m).ep=_;unfold Du.ep;rw[hs.1]
    rw[this];exact h.ph n
   ·exact h.stand j (λe w=>u e w) rfl rfl rfl rfl (λn=>by have n:y.5=true:=n;rw[i]at n;simp at n)
  ·exact⟨up (h.fall j (λn=>oG)),by simp[Nd.ku,Ms.nil,jU]⟩
 split
 ·refine⟨up ?_,.nil⟩;unfold Nd.wrote;split
  ·obtain⟨o,F⟩:∃o,o=(if(8,m.e,max 0 m.q,m.f)∈y.oa then y.oa else y.oa++[(8,m.e,max 0 m.q,m.f)]):=⟨_,rfl⟩;rw[←F];unfold Nd.finish;split;·exact h.ko rfl h.ba h.rf h.ph ⟨rfl,rfl⟩
   ·exact h.ko rfl h.ba h.rf h.ph ⟨rfl,rfl⟩
  ·exact h
 split
 ·unfold Nd.copied;split
  ·next c=>
   have hS:=h.ph oG;have r:eO B K S {y with ph:=2}:=h.ko rfl h.ba h.rf (λ_=>hS) ⟨rfl,rfl⟩;exact r.fu j i x hS D L ok (λ_=>up r)
  ·exact⟨up h,.nil⟩
 ·exact⟨up h,.nil⟩
def eO.eu(h:eO B K S y)(e:0<=B)(c:0<=y.id/\y.id<5)(set:Int)(hS:folB (y.d.rc y.d.ep) (y.d.ep+1) (y.id+1) set=true->bits .andNot .i64 set (y.d.rc y.d.ep).S=0->S y.d.ep)(j:S y.d.ep->K y.d.ep)(k:(10:Int)<=B' - B)(ok:Bool):eO B' K S (y.eu set ok).1/\jU B' K (y.eu set ok).2.1:=by
 have up:∀{a:Nd},eO B K S a->eO B' K S a:=λh=>h.up oG (λ_=>id) id;unfold Nd.eu;split;·exact⟨up h,.nil⟩
 next c0=>
 split;·exact⟨up h,.nil⟩
 next c1=>
 split;·exact⟨up h,.nil⟩
 have b:folB (y.d.rc y.d.ep) (y.d.ep+1) (y.id+1) set=true:=by
  cases b:folB (y.d.rc y.d.ep) (y.d.ep+1) (y.id+1) set;·exact absurd (.inr (.inl b)) c1
  ·rfl
 have f:bits .andNot .i64 set (y.d.rc y.d.ep).S=0:=Classical.byContradiction λi=>c1 (.inl i);have g:eO B K S {y with ph:=2,gP:=y.id+1,gS:=set,jo:=0,ba:=0,rf:=0,fo:=.nil,an:=[]}:=h.ko rfl e e (λ_=>hS b f) ⟨rfl,rfl⟩;exact g.fu e (by simpa using c0) c (hS b f) j k ok (λ_=>up g)
def eO.gq(h:eO B K S y)(j:0<=B)(f:0<=y.id/\y.id<5)(i:S y.d.ep->K y.d.ep)(k:(10:Int)<=B' - B)(ok:Bool):eO B' K S (y.gq ok).1/\jU B' K (y.gq ok).2:=by
 have up:∀{a:Nd},eO B K S a->eO B' K S a:=λh=>h.up oG (λ_=>id) id;unfold Nd.gq;split;·exact⟨up h,.nil⟩
 next c0=>
 have g:eO B' K S (y.ic ok).1/\jU B' K (y.ic ok).2:=by
  unfold Nd.ic;split
  ·exact⟨up h,.tell _ _ ⟨by show(0:Int)<=B';omega,λb=>by simp at b,λb=>by
    rcases b with⟨_,b⟩|b;·have:(0:Int)<0:=b;omega
    ·simp at b⟩⟩
  split;·exact⟨up h,.tell _ _ (oA oG rfl (by show(9:Int)≠3;omega) (by show(9:Int)≠5;omega))⟩
  ·next c1 _=>exact h.fu j (by simpa using c0) f (h.ph c1) i k ok (λ_=>up h)
 refine⟨g.1,λz c=>?_⟩;rcases List.mem_append.1 c with c|c;·exact g.2 z c
 ·split at c
  ·next ho=>
   have e:(y.ic ok).1.on=y.on/\(y.ic ok).1.ow=y.ow:=by
    have:=(Opk.gq y ok).on;unfold Nd.gq at this;rw[if_neg c0]at this;rcases this with b|b;·have b:(y.ic ok).1.on=0:=b;omega
    ·exact b
   rw[e.1]at ho;have:=h.ow ho;have:jU B' K ((y.ic ok).1.tell (y.ic ok).1.ow (y.ic ok).1.missing):=.tell _ _ (by rw[e.2];exact oA oG this.2 oG oG);exact this z c
  ·simp at c
def eO.operate(h:eO B K S y)(b:0<=B)(bl v:Int)(ok:Bool):eO B K S (y.operate bl v ok).1/\jU B K (y.operate bl v ok).2.1:=by
 unfold Nd.operate;split;·exact⟨h,.nil⟩
 dsimp only;split
 ·refine⟨?_,.tell _ _ (oA b rfl (by show(7:Int)≠3;omega) (by show(7:Int)≠5;omega))⟩;have a:eO B K S {y.save {Ms.nil with k:=7,e:=y.d.ep,q:=y.d.last+1,bl:=bl,v:=v} true with ops:=y.ops+1,on:=y.ops+1,ow:={Ms.nil with k:=7,e:=y.d.ep,q:=y.d.last+1,bl:=bl,v:=v},oa:=[]}:=⟨h.vo,h.ba,h.rf,h.ph,h.tr,λ_=>⟨rfl,rfl⟩⟩;unfold Nd.finish;split;·exact a.ko rfl a.ba a.rf a.ph ⟨rfl,rfl⟩
  ·exact a
 ·exact⟨h.fall b (λc=>by simp at c),.nil⟩
def eO.admi(h:eO B K S y)(a:0<=B)(hS:y.act=true->S y.d.ep)(node:Int)(ok:Bool):eO B K S (y.admi node ok).1/\jU B K (y.admi node ok).2.1:=by
 unfold Nd.admi;split;·exact⟨h,.nil⟩
 next c0=>
 have c:=(vC (Classical.byContradiction λe=>c0 e)).2.1;dsimp only;split;·refine⟨⟨h.vo,a,a,λ_=>hS c,h.tr,h.ow⟩,.tell _ _ (oA a rfl (by show(9:Int)≠3;omega) (by show(9:Int)≠5;omega))⟩
 ·exact⟨h.fall a (λb=>by simp[Nd.fq]at b),.nil⟩
def eO.ng(h:eO B K S y)(a:0<=B):eO B K S (y.fresh y.d):=h.stand a (λe c=>⟨c,rfl⟩) rfl rfl rfl rfl (λb=>by simp[Nd.fresh]at b)
def eO.oz(h:eO B K S y)(n:0<=B)(j:y.5=true)(t:y.tr.k=1∨y.tr.k=3->y.d.ep<=y.tr.e)(o:y.tr.k=6->y.tr.e=y.d.ep)(f:y.tr.k=1∨y.tr.k=3∨y.tr.k=6∨y.tr.k=7∨y.tr.k=9):eO B K S (y.fresh (y.d.step y.tr)):=by
 have i:∀{d:Du},(∀e,d.ep<=e->(dJ d.3 e).pr<=B/\(dJ d.3 e=⟨0,0,0,0⟩∨0<(dJ d.3 e).pr/\K e))->eO B K S (y.fresh d):=λr=>⟨r,n,n,λa=>absurd rfl a,λa=>by simp[Nd.fresh]at a,λa=>by simp[Nd.fresh,Nd.stand]at a⟩;refine i λe a=>?_;by_cases c:y.tr.k=1∨y.tr.k=3
 ·have hs:y.d.step y.tr={y.d with kv:=f8 y.d.3 y.tr.e ((dJ y.d.3 y.tr.e).after y.tr.k y.tr.b y.tr.p y.tr.s)}:=by rcases c with f|f<;>simp[Du.step,f]
  rw[hs]at a⊢;have a:y.d.ep<=e:=a;dsimp only;rw[vmGet_put];split
  ·next c2=>
   have:((dJ y.d.3 y.tr.e).after y.tr.k y.tr.b y.tr.p y.tr.s).pr=y.tr.b:=by unfold PV.after;split<;>rfl
   rw[this,c2];exact⟨(h.tr j c).1,.inr (h.tr j c).2⟩
  ·exact h.vo e a
 ·by_cases l:y.tr.k=6
  ·have hs:y.d.step y.tr=y.d.learn (y.tr.e+1) y.tr.p y.tr.s:=by simp[Du.step,l]
   rw[hs]at a⊢;have g:(y.d.learn (y.tr.e+1) y.tr.p y.tr.s).ep=y.d.ep+1:=by simp[Du.learn,Du.ep]
   show(dJ (fT y.d.3 (y.tr.e+1 - 1)) e).pr<=B/\_;have q:dJ (fT y.d.3 (y.tr.e+1 - 1)) e=dJ y.d.3 e:=vmGet_del _ _ _ (by have:=o l;omega);show(dJ (fT y.d.3 (y.tr.e+1 - 1)) e).pr<=B/\(dJ (fT y.d.3 (y.tr.e+1 - 1)) e=_∨0<(dJ (fT y.d.3 (y.tr.e+1 - 1)) e).pr/\K e);rw[q];exact h.vo e oG
  ·have hs:=step79 y.d (m:=y.tr) oG;have g:(y.d.step y.tr).ep=y.d.ep:=by unfold Du.ep;rw[hs.1]
   rw[hs.2.1];exact h.vo e oG
end
section
variable {n j B B' K:Int} {x:Int->Nd} {sn:Ms->Prop} {u u':Gv} {a:Nd} {out:List (Int×Ms)}
def BI.of(h:BI n x sn u.R B)(b:0<=j)(a:j<n):eO B (mS n x u.R) (λe=>e<=(x j).d.ep/\bit (u.R e).S j) (x j):=(h.nd j b a).up (Int.le_refl _) (λ_=>id) (λc=>⟨Int.le_refl _,c⟩)
def BI.go(h:BI n x sn u.R B)(A:0<=j)(D:j<n)(r:∀k,0<=k->k<n->0<=(x k).d.ep)(p:Kn n x K)(l:Grv K u u')(C:(x j).d.ep<=a.d.ep)(q:B<=B')(f:eO B' (mS n x u.R) (λe=>e<=(x j).d.ep/\bit (u.R e).S j) a)(v:jU B' (mS n x u.R) out):BI n (upd x j a) (λy=>sn y∨∃z∈out,y=z.2) u'.R B':=by
 have kn:∀e,mS n x u.R e->mS n (upd x j a) u'.R e:=by
  rintro e ⟨s,k,g,k1,k2,t⟩;refine⟨s,k,g,k1,by rw[l.R s (Int.le_trans t (p k g k1))];exact k2,?_⟩;by_cases i:k=j;·subst i;rw[upd_self];omega
  ·rw[upd_ne i];exact t
 refine⟨Int.le_trans h.b0 q,λk g k1=>?_,λm o=>?_⟩
 ·by_cases i:k=j;·subst i;rw[upd_self];exact⟨λe b=>⟨(f.vo e b).1,(f.vo e b).2.imp id (λc=>⟨c.1,kn _ c.2⟩)⟩,f.ba,f.rf,λb=>by have c:=f.ph b;rw[l.R (by have:=r k g k1;omega) (Int.le_trans c.1 (p k g k1))];exact c.2,λb c=>⟨(f.tr b c).1,(f.tr b c).2.1,kn _ (f.tr b c).2.2⟩,f.ow⟩
  ·rw[upd_ne i];exact(h.nd k g k1).up q kn (λb=>by rw[l.R (r k g k1) (p k g k1)];exact b)
 ·rcases o with o|⟨z,w,rfl⟩;·exact(h.ms m o).up q kn
  ·exact(v z w).up (Int.le_refl _) kn
end
end AG
namespace AG
section
variable {n nb j B:Int} {x:Int->Nd} {sn:Ms->Prop} {g:Gh} {u u':Gv} {m:Ms} {a:Nd} {out:List (Int×Ms)}
def BK(n:Int)(x:Int->Nd)(u:Gv)(j B:Int)(a:Nd)(out:List (Int×Ms)):Prop:=eO B (mS n x u.R) (λe=>e<=(x j).d.ep/\bit (u.R e).S j) a/\jU B (mS n x u.R) out
def Inv.foe'(h:Inv n nb x sn g u)(b:0<=j)(a:j<n){E p s:Int}(e:folB ((x j).d.rc (x j).d.ep) (E+1) p s=true):E=(x j).d.ep:=by have c:=(h.own b a).i0.2.2.2.2;rw[(h.own b a).rr c (Int.le_refl _)]at e;have f:=h.qa b a c (Int.le_refl _);have:=(sW e).2.2.1;omega
def Inv.knoS(h:Inv n nb x sn g u)(b:0<=j)(a:j<n):((x j).d.ep<=(x j).d.ep/\bit (u.R (x j).d.ep).S j)->mS n x u.R (x j).d.ep:=λc=>⟨(h.own b a).i0.2.2.2.2,j,b,a,c.2,Int.le_refl _⟩
def Inv.id5(h:Inv n nb x sn g u)(b:0<=j)(a:j<n):0<=(x j).id/\(x j).id<5:=by have:=(h.own b a).i0.1;have:=h.nn;omega
def BI.rcv(b:BI n x sn u.R B)(h:Inv n nb x sn g u)(c:0<=j)(a:j<n)(d:sn m)(ok:Bool):BK n x u j (B+10) ((x j).receive m ok).1 ((x j).receive m ok).2:=(b.of c a).receive b.b0 (h.id5 c a) (h.knoS c a) (λe=>h.foe' c a e) (b.ms m d) oG ok
def BI.pro(b:BI n x sn u.R B)(h:Inv n nb x sn g u)(a:0<=j)(c:j<n)(set:Int)(ok:Bool):BK n x u j (B+10) ((x j).eu set ok).1 ((x j).eu set ok).2.1:=by refine(b.of a c).eu b.b0 (h.id5 a c) set (λi d=>⟨Int.le_refl _,?_⟩) (h.knoS a c) oG ok;have q:=h.own a c;have k:=q.rr q.i0.2.2.2.2 (Int.le_refl _);have f:=sW i;obtain⟨_,_,_,_,_,s0,s1,e,_⟩:=f;rw[k]at d;have hs:=BD ⟨oG,s1⟩ (h.mr a c q.i0.2.2.2.2 (Int.le_refl _)) d;rw[q.i0.1,show j+1 - 1=j by omega]at e;exact hs j a (by have:=h.nn;omega) e
def BI.ret(b:BI n x sn u.R B)(h:Inv n nb x sn g u)(c:0<=j)(a:j<n)(ok:Bool):BK n x u j (B+10) ((x j).gq ok).1 ((x j).gq ok).2:=(b.of c a).gq b.b0 (h.id5 c a) (h.knoS c a) oG ok
def BK.up(h:BK n x u j B a out):BK n x u j (B+10) a out:=⟨h.1.up oG (λ_=>id) id,λz b=>(h.2 z b).up oG (λ_=>id)⟩
def BI.adm(b:BI n x sn u.R B)(h:Inv n nb x sn g u)(c:0<=j)(a:j<n)(node:Int)(ok:Bool):BK n x u j (B+10) ((x j).admi node ok).1 ((x j).admi node ok).2.1:=by refine BK.up ((b.of c a).admi b.b0 (λk=>⟨Int.le_refl _,?_⟩) node ok);have q:=h.own c a;have t:=q.t1 k;have i:=(h.t2 t.1).1;have kn:=(h.known c a (e:=(x j).d.ep - 1) oG oG).1;rw[show(x j).d.ep - 1+1=(x j).d.ep by omega]at kn;have f:=kn.2.2.2.2.2.2.2.1;rw[t.2.1,show j+1 - 1=j by omega]at f;exact f
def BI.ope(b:BI n x sn u.R B)(c:0<=j)(a:j<n)(bl v:Int)(ok:Bool):BK n x u j (B+10) ((x j).operate bl v ok).1 ((x j).operate bl v ok).2.1:=BK.up ((b.of c a).operate b.b0 bl v ok)
def BI.cr0(b:BI n x sn u.R B)(c:0<=j)(a:j<n):BK n x u j (B+10) ((x j).fresh (x j).d) []:=BK.up ⟨(b.of c a).ng b.b0,.nil⟩
def BI.cr1(b:BI n x sn u.R B)(h:Inv n nb x sn g u)(i:0<=j)(f:j<n)(e:(x j).5=true):BK n x u j (B+10) ((x j).fresh ((x j).d.step (x j).tr)) []:=by
 refine BK.up ⟨(b.of i f).oz b.b0 e ?_ ?_ ?_,.nil⟩;all_goals rcases(h.own i f).pd e with⟨k,a,c⟩|⟨k,a,c,l⟩|⟨k,a,b,c⟩|⟨k,a,c,l,p,m⟩
 all_goals first|omega|(intro o;omega)
def BI.nx(b:BI n x sn u.R B)(h:Inv n nb x sn g u)(o:0<=j)(i:j<n)(e:(x j).d.ep<=a.d.ep)(p:Nx n nb x sn u j a out u')(c:BK n x u j (B+10) a out):BI n (upd x j a) (λy=>sn y∨∃z∈out,y=z.2) u'.R (B+10):=by obtain⟨q,K,l,m,_⟩:=p;exact b.go o i (λk f k1=>(h.own f k1).i0.2.2.2.2) l m e oG c.1 c.2
def BI.up{R:Int->Rc}{B':Int}(b:BI n x sn R B)(a:B<=B'):BI n x sn R B':=⟨Int.le_trans b.b0 a,λk d k1=>(b.nd k d k1).up a (λ_=>id) id,λm c=>(b.ms m c).up a (λ_=>id)⟩
def BI.qd{x':Int->Nd}{R:Int->Rc}(b:BI n x sn R B)(c:∀k,0<=k->k<n->(∀e,vt (x' k) e=vt (x k) e)/\(x' k).d.ep=(x k).d.ep/\(x' k).ba=(x k).ba/\(x' k).rf=(x k).rf/\(x' k).ph=(x k).ph/\(x' k).5=(x k).5/\(x' k).tr=(x k).tr/\(x' k).on=(x k).on/\(x' k).ow=(x k).ow):BI n x' sn R B:=by
 have kn:∀e,mS n x R e->mS n x' R e:=by rintro e ⟨g,k,a,k1,k2,p⟩;exact⟨g,k,a,k1,k2,by rw[(c k a k1).2.1];exact p⟩
 refine⟨b.b0,λk a k1=>?_,λm l=>(b.ms m l).up (Int.le_refl _) kn⟩;obtain⟨t,f,c3,s,j,r,q,i,o⟩:=c k a k1;have h:=(b.nd k a k1).up (Int.le_refl _) kn (S':=λe=>bit (R e).S k) id;refine⟨λe u=>by rw[t];exact h.vo e oG,by rw[c3];exact h.ba,by rw[s];exact h.rf,by rw[j,f];exact h.ph,by rw[r,q];exact h.tr,by rw[i,o];exact h.ow⟩
def BI.first(d:∀j,0<=j->j<n->x j=Nd.first j n nb)(R:Int->Rc):BI n x (λ_=>False) R 0:=by refine⟨Int.le_refl _,λk c k1=>?_,λm b=>b.elim⟩;rw[d k c k1];exact⟨λe _=>⟨Int.le_refl _,.inl rfl⟩,Int.le_refl _,Int.le_refl _,λa=>absurd rfl a,λa=>by simp[Nd.first]at a,λa=>by simp[Nd.first]at a⟩
end
def Inv.sy{n nb:Int}{x:Int->Nd}{sn:Ms->Prop}{g:Gh}{u:Gv}{B E:Int}(h:Inv n nb x sn g u)(b:BI n x sn u.R B)(r:∀k,0<=k->k<n->Qn n k E (x k)):Sy n E (u.R E) B x:=by
 have s:=h.nn;have f:∀k,0<=k->k<n->(x k).d.ep=E:=λk a k1=>(r k a k1).ep;have l:0<=E:=by have:=(h.own (j:=0) oG oG).i0.2.2.2.2;rw[f 0 oG oG]at this;exact this
 refine⟨r,λk a k1=>(h.own a k1).rr l (by rw[f k a k1];exact Int.le_refl _),λk a k1=>?_,λk a k1 c=>?_,λk a k1 e t=>?_,λk a k1=>?_,l⟩
 ·have:=(b.nd k a k1).vo E (by rw[f k a k1];exact Int.le_refl _);refine⟨?_,this.1⟩;rcases this.2 with c|c;·rw[c];exact Int.le_refl _
  ·omega
 ·have i:=h.vx.n2 (j:=k) (e:=E) a k1 (by simp only[Nd.vo];rw[f k a k1];exact Int.le_refl _) (by simp only[Nd.vo];exact c);have o:=h.gr (h.vx.a1 i);exact sV (h.mr a k1 l (by rw[f k a k1];exact Int.le_refl _)) o.2.2.1
 ·rcases((b.nd k a k1).vo e (by rw[f k a k1];omega)).2 with c|⟨_,_,j,p,m,_,j3⟩;·exact c
  ·rw[f j p m]at j3;omega
 ·rcases(h.own a k1).t3 with c|c;·omega
  ·obtain⟨_,j,p,m,_,_,q⟩:=h.t2 c.1;rw[f j p m]at q;exact q
def Inv.sq{n nb:Int}{x:Int->Nd}{sn:Ms->Prop}{g:Gh}{u:Gv}{B:Int}(h:Inv n nb x sn g u)(b:BI n x sn u.R B)(j:∀k,0<=k->k<n->Qn n k (x k).d.ep (x k)):Sq n u.R x:=by
 refine⟨j,λk a k1=>(h.own a k1).i0.2.2.2.2,λk a k1 e c f=>(h.own a k1).rr c f,λk a k1 e c f=>h.qa a k1 c f,λk a k1 e c f=>?_,λk a k1 e l=>?_⟩;·exact sV (h.mr a k1 c oG) (h.known a k1 c f).1
 ·rcases((b.nd k a k1).vo e l).2 with i|i;·rw[i];exact Int.le_refl _
  ·omega
end AG
namespace AG
def QI{z:Nd}{v:V}{e:Int}(h:z.d.ep<e):vt (iG z v) e=vt z e:=by unfold vt;rw[rW];show dJ (fT z.d.3 (z.d.ep+1 - 1)) e=_;rw[vmGet_del _ _ _ oG]
def DD{i j:Int}(hi:0<=i/\i<5)(d:0<=j/\j<5)(h:bit (2 ^ i.toNat) j):j=i:=by have c:∀a b:Fin 5,(2 ^ a.val:Int) / 2 ^ b.val%2=1->a=b:=dG;have:=c ⟨i.toNat,oG⟩ ⟨j.toNat,oG⟩ h;have:=congrArg Fin.val this;simp only at this;omega
def Az(n:Int)(x:Int->Nd):Prop:=∀i,0<=i->i<n->(x i).act=true->((x i).d.rc (x i).d.ep).S=2 ^ i.toNat->∀k,0<=k->k<n->(x k).d.ep<=(x i).d.ep->vt (x k) (x i).d.ep=⟨0,0,0,0⟩
def Az.round{n B:Int}{x:Int->Nd}{R:Int->Rc}{sn:Ms->Prop}(h:Az n x)(r:BI n x sn R B)(C:n<=5)(d:Int->Bool):Az n (jw R x d):=by
 intro i q t l hS k m k1 g;have v:(jw R x d k).d.ep=(if d k=true then(x k).d.ep+1 else(x k).d.ep):=by
  unfold jw;split;·rw[vG]
  ·rfl
 have f:∀e,(jw R x d k).d.ep<=e->vt (jw R x d k) e=vt (x k) e/\(x k).d.ep<=e:=λe b=>by
  rw[v]at b;unfold jw;split at b;·next c=>rw[if_pos c];exact⟨QI oG,oG⟩
  ·next c=>rw[if_neg c];exact⟨rfl,b⟩
 rw[(f _ g).1];have a:=(f _ g).2;by_cases c:d i=true
 ·have e:jw R x d i=iG (x i) (vR R (x i).d.ep):=by unfold jw;rw[if_pos c]
  rw[e]at hS a⊢;obtain⟨⟨_,w,y⟩,_⟩:=xM (d:=(x i).d) (E:=(x i).d.ep+1) (p:=(vR R (x i).d.ep).1) (s:=(vR R (x i).d.ep).2) rfl;rw[rW,w]at hS a⊢;rw[y]at hS;have hS:(R ((x i).d.ep+1)).S=2 ^ i.toNat:=hS;rcases((r.nd k m k1).vo _ a).2 with u|⟨_,_,j,D,z,o,A⟩;·exact u
  ·rw[hS]at o;have:=DD oG oG o;subst this;omega
 ·have e:jw R x d i=x i:=by unfold jw;rw[if_neg c]
  rw[e]at l hS a⊢;exact h i q t l hS k m k1 a
end AG
end Go.Proofs.YtdcainmlcpafbaaGreatDoor
