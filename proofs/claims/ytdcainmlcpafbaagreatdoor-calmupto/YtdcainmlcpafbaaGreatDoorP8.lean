import Derived.Test.YtdcainmlcpafbaaGreatDoorP1
import Derived.Test.YtdcainmlcpafbaaGreatDoorJ39
import Derived.Test.YtdcainmlcpafbaaGreatDoorJ41
import Derived.Test.YtdcainmlcpafbaaGreatDoorJ42
import Derived.Test.YtdcainmlcpafbaaGreatDoorCards
import Derived.Test.YtdcainmlcpafbaaGreatDoorTie
import Derived.Lib.SmallJoins
import Derived.Deep.DeepHandedRow
import Derived.Deep.DeepWitnessRowRef
set_option linter.all false
set_option maxRecDepth 100000
namespace Go.Proofs.YtdcainmlcpafbaaGreatDoor
open Go.ChangeShapes Go.WideShapes Go.ChangeAt Go.RowKit
theorem SN:Tryz.prog.cellsOf 47=2:=by kernel_rfl
theorem zN:Tryz.prog.cellsOf 70=3:=by kernel_rfl
theorem F2 {k:Int} (h:(Lit.int .i64 k).wf=true):-9223372036854775808<=k/\k<=9223372036854775807:=by simpa[Lit.wf,IntKind.min,IntKind.max,IntKind.bits,IntKind.signed] using h
theorem IB {α:Type} (P:Nat->α->Prop):∀ n,(∀ i,i<n->∃ r,P i r)->∃ l:List α,l.length=n/\∀ i (h:i<l.length),P i l[i]:=by
 intro n;induction n with
 | zero=>intro _;exact⟨[],rfl,λi h=>by simp at h⟩
 | succ n ih=>
  intro h;obtain⟨l,hl,hp⟩:=ih (λi hi=>h i (by omega));obtain⟨r,hr⟩:=h n (by omega);refine⟨l++[r],by simp[hl],λi hi=>?_⟩;by_cases hin:i<l.length;·rw[List.getElem_append_left hin];exact hp i hin
  ·have:i=n:=by simp at hi;omega
   subst this;rw[List.getElem_append_right (by omega)];simpa[hl] using hr
theorem NM {H:Type} (d:DataW H):1<=Rows.uptoBulk d:=by
 cases d with
 | lit l=>cases l<;>simp[Rows.uptoBulk]
 | nil=>simp[Rows.uptoBulk]
 | ptr d=>simp[Rows.uptoBulk]
 | slice elems spare=>simp[Rows.uptoBulk]
 | agg parts=>simp[Rows.uptoBulk]
 | iface t d=>simp[Rows.uptoBulk]
 | map entries=>simp[Rows.uptoBulk]
 | held h=>simp[Rows.uptoBulk]
theorem FK {H:Type} (c:Nat):∀ (l:List (DataW H)),(∀ x∈l,c<=Rows.uptoBulk x)->c*l.length<=Rows.uptoBulkAll l:=by
 intro l;induction l with
 | nil=>intro _;simp[Rows.uptoBulkAll]
 | cons x r ih=>intro h;have h1:=h x (by simp);have h2:=ih (λy hy=>h y (by simp[hy]));simp only[Rows.uptoBulkAll,List.length_cons,Nat.mul_add,Nat.mul_one];omega
section
variable {H:Type} {enc:TypeId×Value->H} {W:World} {base:Nat} {spare:Nat->Bool} {held:Bool}
theorem tN {n:Nat} {u:Value} {y:DataW H×List MemPlace} (hy:DataW.trod enc Tryz.prog W base spare held n 3 [u]=some y):∃ k,u=.int .i64 k/\(-9223372036854775808<=k/\k<=9223372036854775807):=by obtain⟨k,hk,_,hw⟩:=DataW.trod_int Tryz.underlying3 hy;exact⟨k,by simpa using hk,F2 hw⟩
theorem EN {n:Nat} {cs:List Value} {y:DataW H×List MemPlace} (h:DataW.trod enc Tryz.prog W base spare held n 70 cs=some y):4<=Rows.uptoBulk y.1/\∃ r:mT,cs=r.cells/\r.ok:=by
 obtain⟨xs,m,_,rfl,hcl,hlen,hfs⟩:=DataW.trod_struct Tryz.underlying70 h;have hlen:xs.length=3:=hlen;rw[zN] at hcl;refine⟨?_,?_⟩;·have h9:=FK 1 (xs.map (·.1)) (λx _=>NM x);rw[List.length_map,hlen] at h9;simp only[Rows.uptoBulk];omega
 match cs,hcl with
 | [v0,v1,v2],_=>have g:∀ i,i<3->∃ y,xs[i]?=some y:=λi hi=>⟨xs[i],by simp⟩;have q0:DataW.trod enc Tryz.prog W base spare held m 3 (([v0,v1,v2].drop 0).take (Tryz.prog.cellsOf 3))=xs[0]?:=hfs 0 _ rfl;have q1:DataW.trod enc Tryz.prog W base spare held m 3 (([v0,v1,v2].drop 1).take (Tryz.prog.cellsOf 3))=xs[1]?:=hfs 1 _ rfl;have q2:DataW.trod enc Tryz.prog W base spare held m 3 (([v0,v1,v2].drop 2).take (Tryz.prog.cellsOf 3))=xs[2]?:=hfs 2 _ rfl;rw[c3] at q0 q1 q2;obtain⟨y0,hy0⟩:=g 0 (by omega);obtain⟨y1,hy1⟩:=g 1 (by omega);obtain⟨y2,hy2⟩:=g 2 (by omega);rw[hy0] at q0;rw[hy1] at q1;rw[hy2] at q2;obtain⟨E,rfl,bE⟩:=tN q0;obtain⟨P,rfl,bP⟩:=tN q1;obtain⟨S,rfl,bS⟩:=tN q2;exact⟨⟨E,P,S⟩,rfl,bE,bP,bS⟩
end
theorem NN {H:Type} {enc:TypeId×Value->H} {W:World} {base:Nat} {v:Value} {d:DataW H} {ps:List MemPlace} (hv:Value.okWide Tryz.prog W .any base 48 v) (h:DataW.Trod enc Tryz.prog W 0 (λ_=>true) true 48 v d ps) (hN:Rows.uptoBulk d<=1048576) :∃ (ao:Option Addr) (c:Nat) (ms:List mT),v=.slice ao ms.length c/\ms.length<=300000/\(∀ m∈ms,m.ok)/\tR W ao ms:=by
 obtain⟨a',l',c',rfl⟩:=okWide_slice Tryz.underlying48 hv;obtain⟨fuel,hf⟩:=h;rcases DataW.trod_slice Tryz.underlying48 hf with⟨h0,_⟩|⟨a,len,cap,elems,rest,n,_,h0,he,hb,hl,hm,hlen,hel,_,_⟩;·simp[Value.cells] at h0;obtain⟨rfl,rfl,rfl⟩:=h0;exact⟨none,0,[],rfl,by simp,by simp,.inl rfl⟩
 ·simp[Value.cells] at h0;obtain⟨rfl,rfl,rfl⟩:=h0;have he1:d=_:=congrArg Prod.fst he;subst he1;simp only[Rows.uptoBulk] at hN;have each:∀ i,i<l'->∃ r:mT,W.cells? 0 (a.add (i*3)) 3=some r.cells/\r.ok:=by
   intro i hi;have h1:=hel i hi;rw[zN] at h1;have h2:elems[i]?=some elems[i]:=by simp
   rw[h2,Option.bind_eq_some_iff] at h1;obtain⟨cs',h3,h4⟩:=h1;obtain⟨_,r,rfl,hr⟩:=EN h4;exact⟨r,h3,hr⟩
  have h4:4*l'<=Rows.uptoBulkAll (elems.map (·.1)):=by
   have h9:=FK 4 (elems.map (·.1)) (λx hx=>by
    obtain⟨y,hy,rfl⟩:=List.mem_map.1 hx;obtain⟨i,hi,rfl⟩:=List.getElem_of_mem hy;have h1:=hel i (by omega);rw[zN] at h1;have h2:elems[i]?=some elems[i]:=by simp
    rw[h2,Option.bind_eq_some_iff] at h1;obtain⟨cs',h3,h4⟩:=h1;exact(EN h4).1)
   rw[List.length_map] at h9;omega
  obtain⟨l,hll,hp⟩:=IB _ l' each;refine⟨some a,c',l,by rw[hll],by omega,λr hr=>?_,?_⟩;·obtain⟨i,hi,rfl⟩:=List.getElem_of_mem hr;exact(hp i hi).2
  ·by_cases h0:l'=0;·exact .inl (List.length_eq_zero_iff.mp (by omega))
   ·have cell:∀ j (hj:j<l.length) i,i<3->W.cell? ((a.add (j*3)).add i)=some (l[j].cells.getD i undef):=by intro j hj i hi;obtain⟨_,_,h3⟩:=World.cells?_some (hp j hj).1;rw[h3 i hi,List.getD_eq_getElem?_getD,List.getElem?_eq_getElem (by show i<3;exact hi)];rfl
    obtain⟨g,off,spot⟩:=a;have hs:=World.cell?_spot (cell 0 (by omega) 0 (by omega));have hspot:spot=none:=by simpa[Addr.add] using hs
    subst hspot;refine .inr ⟨g,off,rfl,?_,?_⟩;·have:=World.block_lt_of_cell? W _ (cell 0 (by omega) 0 (by omega));simpa[Addr.add] using this
    ·intro j hj i hi;have:=cell j hj i hi;rw[add_plain,add_plain] at this;exact this
theorem LC {H:Type} {enc:TypeId×Value->H} {W:World} {base:Nat} {v:Value} {d:DataW H} {ps:List MemPlace} (hv:Value.okWide Tryz.prog W .any base 47 v) (h:DataW.Trod enc Tryz.prog W 0 (λ_=>true) true 47 v d ps) :∃ a b:Int,v=.agg #[.int .i64 a,.int .i64 b]/\(-9223372036854775808<=a/\a<=9223372036854775807)/\(-9223372036854775808<=b/\b<=9223372036854775807):=by
 obtain⟨cs,rfl,hsz⟩:=okWide_struct Tryz.underlying47 hv;rw[SN] at hsz;obtain⟨l⟩:=cs;simp only[List.size_toArray] at hsz;match l,hsz with
 | [v0,v1],_=>obtain⟨fuel,hf⟩:=h;obtain⟨xs,n,_,hx,_,hlen,hfs⟩:=DataW.trod_struct Tryz.underlying47 hf;have hlen:xs.length=2:=hlen;have g:∀ i,i<2->∃ y,xs[i]?=some y:=λi hi=>⟨xs[i],by simp⟩;have q0:DataW.trod enc Tryz.prog W 0 (λ_=>true) true n 3 (([v0,v1].drop 0).take (Tryz.prog.cellsOf 3))=xs[0]?:=hfs 0 _ rfl;have q1:DataW.trod enc Tryz.prog W 0 (λ_=>true) true n 3 (([v0,v1].drop 1).take (Tryz.prog.cellsOf 3))=xs[1]?:=hfs 1 _ rfl;rw[c3] at q0 q1;obtain⟨y0,hy0⟩:=g 0 (by omega);obtain⟨y1,hy1⟩:=g 1 (by omega);rw[hy0] at q0;rw[hy1] at q1;obtain⟨A,rfl,bA⟩:=tN q0;obtain⟨B,rfl,bB⟩:=tN q1;exact⟨A,B,rfl,bA,bB⟩
theorem JS (os:Os) {H:Type} (enc:TypeId×Value->H):∃ places,DataW.whole enc Tryz.prog ((World.doorLaid Tryz.prog 400 os).forCall (λ_ _=>0) ⟨#[],#[.agg #[.int .i64 0,.int .i64 0],.slice none 0 0,.int .i64 0],[]⟩).memory Tryz.f10.params.toList Rows.calmSpec.vars false #[Value.agg #[.int .i64 0,.int .i64 0],.slice none 0 0,.int .i64 0].toList 8=some ([.agg [.lit (.int .i64 0),.lit (.int .i64 0)],.nil,.lit (.int .i64 0)],[],places):=⟨[],by kernel_rfl⟩
theorem I1 (os:Os) (started:os.Started) (H:Type) (enc:TypeId×Value->H) (F:Stop.Interp) :ReturnsInHanded {} Tryz.checked os 10 .any ((Rows.OpenSpec.upto Rows.calmSpec).preRow enc Tryz.prog Tryz.f10 Rows.calmUptoRow.domain false Rows.calmUptoRow.laid) (((Rows.OpenSpec.upto Rows.calmSpec).at F).post enc Tryz.prog Tryz.f10 false true false false):=by
 obtain⟨places,hx⟩:=JS os enc;refine returnsInHanded_of_row (C:=Tryz.checked) (s:=Rows.OpenSpec.upto Rows.calmSpec) own started (by kernel_rfl) Tryz.func10
  (witness_row_atRef (enc:=enc) (C:=Tryz.checked) false (World.doorLaid Tryz.prog 400 os) #[.agg #[.int .i64 0,.int .i64 0],.slice none 0 0,.int .i64 0] rfl (by kernel_rfl) (by kernel_rfl) (by kernel_rfl)
    (OpenSpec.preRow_of_cond 8 hx (by kernel_rfl) (λk hk=>by cases hk;kernel_rfl) (by kernel_rfl) (NL os _))) ?_
 intro W base args ds gs before hval0 hW _ hcond _ hL _ _;have hk:Rows.uptoSmall H (ds++gs)=true:=hcond _ rfl;have hval:∀ (j:Nat) t v,Tryz.f10.params[j]?=some t->args[j]?=some v->Value.okWide Tryz.prog W .any base t v:=hval0;have hW':=hW;obtain⟨p,q,hA0,hV,rfl,hfz,hnd⟩:=hW;have hA:DataW.TrodAll enc Tryz.prog W 0 (λ_=>true) true Tryz.f10.params.toList args.toList ds p:=hA0;rw[Tryz.params10] at hA hval;obtain⟨v0,v1,v2,d0,d1,d2,p0,p1,p2,rfl,rfl,rfl,h0,h1,h2⟩:=trodAll_three hA;obtain⟨rfl,rfl⟩:=trodVars_none hV;have hN:=of_decide_eq_true hk;simp only[List.append_nil,Rows.uptoBulkAll] at hN;have h0k:=h0;have h1k:=h1;have h2k:=h2;obtain⟨a,b,rfl,ha,hb⟩:=LC (hval 0 47 v0 rfl rfl) h0;obtain⟨am,cm,ms,rfl,hl,hok,hms⟩:=NN (hval 1 48 v1 rfl rfl) h1 (by omega);obtain⟨who,rfl,_,_,hw⟩:=open_int Tryz.underlying3 (hval 2 3 v2 rfl rfl) h2;have hwb:=F2 hw;clear hA0 hval0;simp only[List.append_nil,List.append_assoc] at hW';refine(NG O8 LZ NJ NK O2 a b who am cm ms W (IA hL) ha hb hwb hl hok hms).mono λe W' ⟨he,hb⟩=>?_;subst he;refine⟨_,rfl,_,_,_,[],p0++(p1++p2),[],hW',trodAll_mk1 (shut_bool Tryz.underlying4 _),trodAll_mk3 (Below.trod yH (by kernel_rfl) (of_decide_eq_true (by kernel_rfl)) h0k hb (λx hx=>?_)) (Below.trod yH (by kernel_rfl) (of_decide_eq_true (by kernel_rfl)) h1k hb (λx hx=>?_)) (Below.trod yH (by kernel_rfl) (of_decide_eq_true (by kernel_rfl)) h2k hb (λx hx=>?_)),rfl,hb.frame _,λh=>by cases h⟩;·simpa using hW'.lt x (by simp[hx])
 ·simpa using hW'.lt x (by simp[hx])
 ·simpa using hW'.lt x (by simp[hx])
end Go.Proofs.YtdcainmlcpafbaaGreatDoor
