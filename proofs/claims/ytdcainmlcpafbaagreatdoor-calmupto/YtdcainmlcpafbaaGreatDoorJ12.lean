import Derived.Test.YtdcainmlcpafbaaGreatDoorJ11
set_option linter.all false
set_option maxHeartbeats 8000000
set_option maxRecDepth 20000
namespace Go.Proofs.YtdcainmlcpafbaaGreatDoor
open Go.RowKit
open Value renaming slice->J,pointer->P0
open Tryz
open Tryz renaming prog->pG
open IntKind renaming i64->T
open Option renaming none->Z,some->Y
open Obj renaming cells->G
open Value (bool)
def uS(low St Nd:Nat)(d:SD)(vr:Value)(Mp D:Nat)(w:World)(k:w.cell? ⟨Nd,3,Z⟩=Y (P0 (Y ⟨St,0,Z⟩)))(i:Nd<w.1.size)(h:eI w low St d vr Mp D)(n:0<d.recs.length)(j:d.recs.length<=100000000):Calls pG 133 #[P0 (Y ⟨Nd,0,Z⟩)] w λr w'=>r=.returned (.agg #[I d.ek.E,I d.ek.P,I d.ek.S])/\Bw w w':=by
 have b:=(Below.refl w.1.size w).alloc r_ (G #[I 0,I 0,I 0] 66);have s:=dF (h.later b);have A:=dF b;have c3:=(b.cell (p:=⟨Nd,3,Z⟩) i).trans k;have o:Nd<(w.alloc (G #[I 0,I 0,I 0] 66)).1.size:=nG;have K:=s.blk.lt;have z:(w.alloc (G #[I 0,I 0,I 0] 66)).1.size=w.1.size+1:=sG;have f:=dF (dI.new w #[I 0,I 0,I 0] 66);have g:(d.recs.length:Int) - 1=((d.recs.length - 1:Nat):Int):=oG;clear k h b;go_enter func133,ntmps133;go_wp2_with fail;generalize (w.alloc (G #[I 0,I 0,I 0] 66))=l at*;go_region_held3 (λw'=>w'.cell? ⟨Nd,3,Z⟩=Y (P0 (Y ⟨St,0,Z⟩))) (first|assumption|go_keep|(repeat(first|assumption|refine(World.cell?_setCell_other _ _ _ _ (by intro C;have H:=congrArg Addr.block C;(try simp at H);omega)).trans ?_))) (first|(go_at_call 179;refine(oX low St d vr Mp D l.drew s.drew n j).mono ?_;rintro r w3 ⟨rfl,rfl⟩;rw[g])|(go_at_call 181;refine(AW low St d vr Mp D (d.recs.length - 1) l.drew s.drew oG j).mono ?_;rintro r m ⟨rfl,a⟩;have O:m.cell? ⟨Nd,3,Z⟩=Y (P0 (Y ⟨St,0,Z⟩)):=(a.cell (p:=⟨Nd,3,Z⟩) o).trans c3;have B:=(f.drew.later a).cell 0;have y:=(f.drew.later a).cell 1;have F:=(f.drew.later a).cell 2;have L:=(f.drew.later a).free 0;have M:=(f.drew.later a).free 1;have Q:=(f.drew.later a).free 2;simp at B y F));have e:d.recs[d.recs.length - 1]?.getD ⟨0,0,0⟩=d.ek:=by unfold SD.ek;rw[List.getD_eq_getElem?_getD]
 simp only[e] at*;have q:Hid (Bw w (((m.setCell ⟨w.1.size,0,Z⟩ (I d.ek.E)).setCell ⟨w.1.size,1,Z⟩ (I d.ek.P)).setCell ⟨w.1.size,2,Z⟩ (I d.ek.S))):=iH (iH (iH (A.drew.trans (a.mono (by show _<=l.1.size;omega))) r_ _ _) r_ _ _) r_ _ _;have c:=(((f.drew.later a).set 0 (I d.ek.E)).set 1 (I d.ek.P)).set 2 (I d.ek.S);generalize (((m.setCell ⟨w.1.size,0,Z⟩ (I d.ek.E)).setCell ⟨w.1.size,1,Z⟩ (I d.ek.P)).setCell ⟨w.1.size,2,Z⟩ (I d.ek.S))=N at*;have t:=c.cell 0;have u:=c.cell 1;have x:=c.cell 2;simp at t u x;go_wp2;exact bodyPost_ret (v:=.agg #[I d.ek.E,I d.ek.P,I d.ek.S]) (by simp[results,results133,go_sem,t,u,x]) rfl ⟨rfl,q⟩
def uL(Nd:Nat)(id nodes:Int)(w:World)(d:w.cell? ⟨Nd,0,Z⟩=Y (I id))(e:w.cell? ⟨Nd,1,Z⟩=Y (I nodes))(c:2<=nodes/\nodes<=5)(hi:0<=id/\id<nodes):Calls pG 178 #[P0 (Y ⟨Nd,0,Z⟩)] w λr w'=>r=.returned (I (2 ^ nodes.toNat - 1 - 2 ^ id.toNat))/\∃n,w'=w.drewN n:=by
 have b:nodes=2∨nodes=3∨nodes=4∨nodes=5:=oG;have a:id=0∨id=1∨id=2∨id=3∨id=4:=oG;rcases b with rfl|rfl|rfl|rfl<;>rcases a with rfl|rfl|rfl|rfl|rfl<;>try omega
 all_goals
  clear c hi
  go_enter func178,ntmps178
  go_upto_region 1 with fail
  go_quiet (fail)
  go_wp2
  go_ret
  exact⟨rfl,nq,rfl⟩
abbrev Ky:=Int×Int×Int×Int
def kP(a:Ky):Value:=.agg #[I a.1,I a.2.1,I a.2.2.1,I a.2.2.2]
def ER:∃b a c d:Field,(Tryz.prog.fieldsOf 323).toList=[b,a,c,d]/\(b.name = "kind" /\b.type=3/\b.offset=0)/\(a.name = "epoch" /\a.type=3/\a.offset=1)/\(c.name = "number" /\c.type=3/\c.offset=2)/\(d.name = "node" /\d.type=3/\d.offset=3):=by have h:(Tryz.prog.fieldsOf 323).toList.map (λf=>(f.name,f.type,f.offset))=[("kind",3,0),("epoch",3,1),("number",3,2),("node",3,3)]:=kG;obtain⟨b,l,k,j,h⟩:=List.map_eq_cons_iff.1 h;obtain⟨a,l,o,e,h⟩:=List.map_eq_cons_iff.1 h;obtain⟨c,l,m,g,h⟩:=List.map_eq_cons_iff.1 h;obtain⟨d,l,n,i,h⟩:=List.map_eq_cons_iff.1 h;simp only[List.map_eq_nil_iff]at h;simp only[Prod.mk.injEq]at j e g i;exact⟨b,a,c,d,by rw[k,o,m,n,h],j,e,g,i⟩
def yM:Tryz.prog.underlying 323=Y (.struct (Tryz.prog.fieldsOf 323)):=kG
def PP:Tryz.prog.stoodInHeld 323=false:=kG
def lL(a:Ky)(i:Nat)(x:Int)(w:World)(h:#[a.1,a.2.1,a.2.2.1,a.2.2.2][i]?=Y x):(part 3 #[I a.1,I a.2.1,I a.2.2.1,I a.2.2.2] i).run pG w=.ok (I x) w:=by
 refine jL (w:=w) _ i (I x) ?_;match i,h with
 |0,h=>simp at h;simp[h]
 |1,h=>simp at h;simp[h]
 |2,h=>simp at h;simp[h]
 |3,h=>simp at h;simp[h]
 |n+4,h=>simp at h
def Q0(a b:Ky)(w:World):(Op.equal 323 (kP a) (kP b)).run pG w=.ok (decide (a=b)) w:=by obtain⟨C,A,D,B,e,⟨s,i,z⟩,⟨v,f,x⟩,⟨n,g,j⟩,q,k,p⟩:=ER;show(Op.equalIn 10000 323 _ _).run _ _=_;unfold kP;rw[run_equalIn_struct w 9999 323 _ _ yM PP,e];simp only[Op.eqFields,s,v,n,q,i,f,g,k,z,x,j,p,Sem.run_bind,Sem.run_ite,lL a 0 a.1 w rfl,lL a 1 a.2.1 w rfl,lL a 2 a.2.2.1 w rfl,lL a 3 a.2.2.2 w rfl,lL b 0 b.1 w rfl,lL b 1 b.2.1 w rfl,lL b 2 b.2.2.1 w rfl,lL b 3 b.2.2.2 w rfl,Result.andThen_ok,run_equalIn_int w 9998 3 .i64 .i64 _ _ underlying3];obtain⟨a1,t,u,c⟩:=a;obtain⟨h,m,o,l⟩:=b;by_cases y:a1=h<;>by_cases d:t=m<;>by_cases c3:u=o<;>by_cases r:c=l<;>simp[y,d,c3,r]
def ES(b:Bool)(a:Ky)(w:World):(Instr.checkKey b 10000 323 (kP a)).run pG w=.ok () w:=by obtain⟨r,p,s,q,c,⟨l,f,o⟩,⟨m,d,n⟩,⟨i,e,g⟩,k,h,j⟩:=ER;rw[show(10000:Nat)=9998+1+1 from rfl];unfold Instr.checkKey kP;simp only[Sem.run_bind,run_underlying yM,Result.andThen_ok];rw[←Array.forIn_toList,c];simp only[List.forIn_cons,List.forIn_nil,l,m,i,k,f,d,e,h,o,n,g,j,Sem.run_bind,Sem.run_ite,lL a 0 a.1 w rfl,lL a 1 a.2.1 w rfl,lL a 2 a.2.2.1 w rfl,lL a 3 a.2.2.2 w rfl,Result.andThen_ok];unfold Instr.checkKey;simp[run_underlying underlying3,(λw=>lL a 1 a.2.1 w rfl:∀w,_),(λw=>lL a 2 a.2.2.1 w rfl:∀w,_),(λw=>lL a 3 a.2.2.2 w rfl:∀w,_)]
structure gH(w:World)(B:Nat)(l:List Ky):Prop where
 obj:∃(es:Array MapEntry) (clk:Nat),w.1[B]?=Y (.map es clk)/\es.toList.map (λe=>(e.key,e.val))=l.map (λa=>(kP a,.agg #[]))
def mJ(a:Ky):List Ky->Nat->Option (Nat×Value)
 | [],_=>none
 |y::l,i=>if a=y then some (i,.agg #[]) else mJ a l (i+1)
def xE(a:Ky):∀(l:List Ky) (i:Nat),(mJ a l i).isSome=decide (a∈l)/\∀j v,mJ a l i=Y (j,v)->v=.agg #[]
 | [],i=>by simp[mJ]
 |y::l,i=>by
  unfold mJ;by_cases h:a=y;·simp[h]
  ·have:=xE a l (i+1);simp[h,this.1];exact this.2
def MI(a:Ky)(w:World):∀(es:List MapEntry) (l:List Ky) (i:Nat),es.map (λe=>(e.key,e.val))=l.map (λx=>(kP x,.agg #[]))->(Instr.findAsking 323 (kP a) es i).run pG w=.ok (mJ a l i) w:=by
 intro es
 induction es with
 | nil=>intro l i h;cases l with
  |nil=>simp[Instr.findAsking,mJ]
  |cons y l=>simp at h
 |cons b es ih=>
  intro l i h
  cases l with
  |nil=>simp at h
  |cons y l=>
   simp only[List.map_cons,List.cons.injEq,Prod.mk.injEq]at h
   simp only[Instr.findAsking,mJ,Sem.run_bind,h.1.1,h.1.2]
   rw[Q0 a y w]
   simp only[Result.andThen_ok]
   by_cases c:a=y
   ·simp[c]
   ·simp[c]
    exact ih l (i+1) h.2
def CH(a:Ky)(w:World)(es:List MapEntry)(l:List Ky)(h:es.map (λe=>(e.key,e.val))=l.map (λx=>(kP x,.agg #[]))):(Instr.findKey 323 (kP a) es).run pG w=.ok (mJ a l 0) w:=by
 unfold Instr.findKey
 simp only[Sem.run_bind,run_underlying yM,Result.andThen_ok]
 cases es with
 | nil=>cases l with
  |nil=>simp[Instr.findNow,mJ]
  |cons y l=>simp at h
 |cons b es=>
  have c:Instr.findNow (.struct (Tryz.prog.fieldsOf 323)) (kP a) (b::es) 0=none:=by simp[Instr.findNow,Instr.sameNow]
  rw[c]
  exact MI a w (b::es) l 0 h
def OB:(Tryz.prog.info? 125).map (λi=>(i.zero,i.size,i.bytes))=Y (Y (.agg #[]),0,0):=kG
def OC(w:World):(zeroValue 125).run pG w=.ok (.agg #[]) w:=by obtain⟨e,b,a,d,c⟩:=info_parts OB;simp[zeroValue,run_typeInfo w b,a]
section
variable {w w':World} {B:Nat} {l:List Ky}
def gH.lt(h:gH w B l):B<w.1.size:=by obtain⟨es,b,a,_⟩:=h.1;exact(Array.getElem?_eq_some_iff.1 a).1
def gH.same(h:gH w B l)(c:w'.1[B]?=w.1[B]?):gH w' B l:=by obtain⟨es,a,b,d⟩:=h.1;exact⟨es,a,c.trans b,d⟩
def gH.later(h:gH w B l)(a:Bw w w'):gH w' B l:=h.same (a.block B h.lt)
def gH.ne(h:gH w B l){C:Nat}{cs:Array Value}{t:TypeId}(h':dI w C cs t):B≠C:=by intro a;subst a;obtain⟨es,b,c,_⟩:=h.1;have:=c.symm.trans h'.blk;simp at this
def gH.look(h:gH w B l)(a:Ky):(Instr.lookup 186 (.map (Y B)) (kP a) true).run pG w=.ok (.tuple #[.agg #[],.bool (decide (a∈l))]) w:=by
 obtain⟨es,e,f,d⟩:=h.1;have c:=CH a w es.toList l d;obtain⟨m1,m2⟩:=xE a l 0;unfold Instr.lookup;simp only[Sem.run_bind,run_underlying underlying186,Result.andThen_ok,oI f,Sem.run_pure,ES,c];cases hx:mJ a l 0 with
 |none=>
  rw[hx]at m1;have b:¬a∈l:=by simpa using m1.symm
  simp[OC,b]
 |some y=>
  obtain⟨i,v⟩:=y;rw[hx]at m1;have b:a∈l:=by simpa using m1.symm
  have:=m2 i v hx;subst this;simp[b]
def gH.put(h:gH w B l)(a:Ky)(g:¬a∈l):∃w',(Instr.mapUpdate 186 (.map (Y B)) (kP a) (.agg #[])).run pG w=.ok () w'/\gH w' B (l++[a])/\dM B w w':=by
 obtain⟨es,b,e,d⟩:=h.1;have c:=CH a w es.toList l d;have f:=h.lt;obtain⟨m1,_⟩:=xE a l 0;unfold Instr.mapUpdate;cases hx:mJ a l 0 with
 |none=>
  rw[hx]at c;refine⟨{w with heap:=w.1.setIfInBounds B (.map (es.push ⟨kP a,.agg #[],b⟩) (b+1))},?_,⟨_,_,(nT w B _ f).1,?_⟩,(nT w B _ f).2⟩;·simp only[Sem.run_bind,run_underlying underlying186,Result.andThen_ok,oI e,ES,c];exact tF _ e
  ·rw[Array.toList_push,List.map_append,List.map_append,d];rfl
 |some y=>rw[hx]at m1;simp at m1;exact absurd m1 g
end
def gH.size{w:World}{B:Nat}{l:List Ky}(h:gH w B l):∃(es:Array MapEntry) (a:Nat),w.1[B]?=Y (.map es a)/\es.size=l.length:=by obtain⟨es,a,c,b⟩:=h.1;refine⟨es,a,c,?_⟩;have:=congrArg List.length b;simpa using this
def yN(Nd B:Nat)(nodes:Int)(l:List Ky)(w:World)(j:w.cell? ⟨Nd,1,Z⟩=Y (I nodes))(f:w.cell? ⟨Nd,24,Z⟩=Y (Value.map (Y B)))(h:gH w B l)(i:2<=nodes/\nodes<=5)(g:l.length<=20000000):Calls pG 241 #[P0 (Y ⟨Nd,0,Z⟩)] w λr w'=>r=.returned (.bool (decide (nodes<2*(l.length:Int))))/\∃n,w'=w.drewN n:=by
 obtain⟨es,a,c,b⟩:=h.size;have d:∀ty n,(Builtin.len_ #[186] ty #[.map (Y B)]).run pG (w.drewN n)=.ok (I (l.length:Int)) (w.drewN n):=by intro ty n;have e:(w.drewN n).1[B]?=Y (.map es a):=((below_drewN b_ n).block B h.lt).trans c;unfold Builtin.len_;simp only[List.getElem?_toArray,List.getElem?_cons_zero,Sem.run_bind,run_underlying underlying186,Result.andThen_ok,oI e,Sem.run_pure];rw[b];rfl
 clear h c b;go_enter func241,ntmps241;go_upto_region 1 with fail;go_quiet (fail);go_wp2;go_ret;exact⟨rfl,nq,rfl⟩
def OD(Nd:Nat)(m:Int)(low St:Nat)(d:SD)(vr:Value)(Mp D:Nat)(k f e b wa p s q bl v:Int)(a:Option Addr)(O:Nat)(c:Nat)(w:World)(h:eI w low St d vr Mp D)(o:0<d.recs.length)(n:d.recs.length<=100000000)(j:w.cell? ⟨Nd,3,Z⟩=Y (P0 (Y ⟨St,0,Z⟩)))(i:w.cell? ⟨Nd,11,Z⟩=Y (I m))(g:Nd<w.1.size):Calls pG 244 #[P0 (Y ⟨Nd,0,Z⟩),.agg (mA k f e b wa p s q bl v (J a O c))] w λr w'=>r=.returned (.bool (e==(d.recs.length:Int) - 1&&(b==m&&decide (0<b))))/\Bw w w':=by
 generalize z:(d.recs.length:Int) - 1=E;have Q:=dF z;clear z;obtain⟨u,K⟩:∃x,(e==E)=x:=⟨_,rfl⟩;obtain⟨B,F⟩:∃x,(b==m)=x:=⟨_,rfl⟩;obtain⟨y,M⟩:∃x,decide (0<b)=x:=⟨_,rfl⟩;have C:=dF (show(e==E&&(b==m&&decide (0<b)))=(u&&(B&&y)) by rw[K,F,M]);rw[C.out];cases u<;>cases B<;>cases y;all_goals
  go_enter func244,ntmps244
  go_upto_region 1 with fail
  generalize t:World.alloc _ _=W0
  have l:=dF (uC t)
  have H:=dF (uR t)
  have N:=dF (h.later l)
  have c3:=(l.cell (p:=⟨Nd,3,Z⟩) g).trans j
  have c11:=(l.cell (p:=⟨Nd,11,Z⟩) g).trans i
  clear t h j i
  have L:=H.cell
  go_quiet ((go_at_call 179;exact Calls.quiet_of ((oX low St d vr Mp D _ (N.later (below_drewN b_ _)) o n).mono (λr w' A=>⟨A.1.trans (by rw[Q.out]),0,A.2⟩))))
  go_wp2
  go_ret
  exact⟨rfl,l.trans (below_drewN b_ _)⟩
def kF(pr rf id:Int):Int:=if max pr rf - max pr rf%5+id<=max pr rf then max pr rf - max pr rf%5+id+5 else max pr rf - max pr rf%5+id
def AC(Nd:Nat)(y:NB)(id:Int)(low St:Nat)(d:SD)(vr:Value)(Mp D:Nat)(w:World)(h:eI w low St d vr Mp D)(B:0<d.recs.length)(A:d.recs.length<=100000000)(o:w.cell? ⟨Nd,3,Z⟩=Y (P0 (Y ⟨St,0,Z⟩)))(l:w.cell? ⟨Nd,0,Z⟩=Y (I id))(g:Nd<w.1.size)(a1:0<=id/\id<5)(Q:0<=(dJ d.3 ((d.recs.length:Int) - 1)).pr/\(dJ d.3 ((d.recs.length:Int) - 1)).pr<=1000000000000)(N:e_ y.rf):Calls pG 135 #[P0 (Y ⟨Nd,0,Z⟩),.agg #[I y.ph,I y.gE,I y.gP,I y.gS,I y.jo,I y.ba,I y.rf,I y.fo.k,I y.fo.f,I y.fo.e,I y.fo.b,I y.fo.wa,I y.fo.p,I y.fo.s,I y.fo.q,I y.fo.bl,I y.fo.v,J Z 0 0,Value.map y.an]] w λr w'=>r=.returned (I (kF (dJ d.3 ((d.recs.length:Int) - 1)).pr y.rf id))/\Bw w w':=by
 go_enter func135,ntmps135;go_upto_region 1 with fail;generalize M:World.alloc _ _=W0;have j:=dF (uC M);have C:=dF (uR M);have R:=dF (h.later j);have c3:=(j.cell (p:=⟨Nd,3,Z⟩) g).trans o;have z:=(j.cell (p:=⟨Nd,0,Z⟩) g).trans l;clear M h o l;have m6:=C.cell 6;simp at m6;generalize W:(d.recs.length:Int) - 1=E at*;have HE:=dF W;clear W;generalize hP:dJ d.3 E=P at*;have HP:=dF hP;clear hP;have H:=j.size;refine wp_region_held_drew (S:=(λw'=>w'.cell? ⟨Nd,3,Z⟩=Y (P0 (Y ⟨St,0,Z⟩))/\w'.cell? ⟨Nd,0,Z⟩=Y (I id)/\w'.cell? ⟨w.1.size,6,Z⟩=Y (I y.rf))) kG ⟨c3,z,m6⟩ (λ_=>?_);refine tk 0 ?_;refine tk 1 ?_;refine tk 2 ?_;refine tk 3 ?_;refine tk 4 ?_;refine tk 5 ?_;refine tk 6 ?_;refine tk 7 ?_;refine tk 8 ?_;refine tk 9 ?_;refine tk 10 ?_;refine tk 11 ?_;refine tk 15 ?_;refine tk 16 ?_;refine dT 12 λK a=>?_;(try go_simp);go_at_call 179;refine(oX low St d vr Mp D W0.drew R.drew B A).mono ?_;rintro r w1 ⟨m,rfl⟩;rw[HE.out]at m;subst m;refine k1 a (λ_=>?_) ⟨c3,z,m6⟩;clear a K;refine dT 13 λK a=>?_;(try go_simp);go_at_call 186;refine(wQ low St d vr Mp D E W0.drew R.drew).mono ?_;rintro r w2 ⟨m,n⟩;rw[HP.out]at m;subst m;have c:Hid (Bw W0 w2):=(Below.refl W0.1.size W0).drew.trans n;have i:Nd<W0.1.size:=oG;have L:=C.lt;have t:=(c.cell (p:=⟨Nd,3,Z⟩) i).trans c3;have x:=(c.cell (p:=⟨Nd,0,Z⟩) i).trans z;have u:=(c.cell (p:=⟨w.1.size,6,Z⟩) L).trans m6;have O:=dF (j.trans (c.mono H));clear n c3 z m6 c C R j;refine k1 a (λ_=>?_) ⟨t,x,u⟩;clear a K;refine dT 14 λK a=>?_;(try go_simp);unfold iN;(try go_simp);refine k1 a (λ_=>?_) ⟨t,x,u⟩;clear a K;refine dT 17 λK a=>?_;(try go_simp);refine k1 a (λ_=>?_) ⟨t,x,u⟩;clear a K;refine dT 18 λK a=>?_;(try go_simp);refine k1 a (λ_=>?_) ⟨t,x,u⟩;clear a K;refine dn ?_;have V:(if P.pr<y.rf then y.rf else P.pr)=max P.pr y.rf:=by split<;>omega
 rw[V];have a0:0<=max P.pr y.rf/\max P.pr y.rf<=1000000000000:=oG;generalize U:max P.pr y.rf=X at*;have F:=dF U;clear U V Q N;go_wp2;all_goals
  rename_i hh
  go_ret
  refine⟨?_,O⟩
  rw[HE.out,HP.out]
  unfold kF
  rw[F.out]
  first
  |rw[if_pos hh];rfl
  |rw[if_neg oG];rfl
def vM(down act right full busy:Bool):Int:=bif down then 3 else bif act then(bif right then(bif full then 1 else bif busy then 4 else 0) else 1) else 5
def PQ(Nd:Nat)(a act right:Bool)(g on:Int)(low St:Nat)(d:SD)(vr:Value)(Mp D:Nat)(w:World)(h:eI w low St d vr Mp D)(v:w.cell? ⟨Nd,3,Z⟩=Y (P0 (Y ⟨St,0,Z⟩)))(o:w.cell? ⟨Nd,4,Z⟩=Y (bool a))(m:w.cell? ⟨Nd,5,Z⟩=Y (bool act))(i:w.cell? ⟨Nd,6,Z⟩=Y (I g))(e:w.cell? ⟨Nd,25,Z⟩=Y (I on))(c:Nd<w.1.size):Calls pG 137 #[P0 (Y ⟨Nd,0,Z⟩),.bool right] w λr w'=>r=.returned (I (vM a act right (d.last==1000000000000) (g != 0 || decide (0<on))))/\Bw w w':=by
 obtain⟨j,n⟩:∃z,(d.last==1000000000000)=z:=⟨_,rfl⟩;obtain⟨q,k⟩:∃z,(g != 0)=z:=⟨_,rfl⟩;obtain⟨l,s⟩:∃z,decide (0<on)=z:=⟨_,rfl⟩;rw[n,k,s];have t:=dF h;clear h;cases a<;>cases act<;>cases right<;>cases j<;>cases q<;>cases l;all_goals
  go_enter func137,ntmps137
  first
  | go_wp2
    go_ret
    exact⟨rfl,Below.refl _ _⟩
  | go_wp2_with fail
    refine(oZ low St d vr Mp D w t).mono ?_
    rintro r w1 ⟨rfl,b⟩
    have x:=(b.cell (p:=⟨Nd,6,Z⟩) c).trans i
    have u:=(b.cell (p:=⟨Nd,25,Z⟩) c).trans e
    have f:=dF b
    clear b
    have y:Sem.run pG (Instr.field 196 (Value.agg #[I d.seen,I d.last]) 1) w1=Result.ok (I d.last) w1:=rfl
    go_wp2
    go_ret
    exact⟨rfl,f⟩
def dY.kept{A:Nat->Prop}{w w':World}(h:dY w)(b:dQ A w w')(m:¬A 0)(l:¬A 1):dY w':=by
 have d:=b.block 0 (by have:=h.two;omega) m;have e:=b.block 1 (by have:=h.two;omega) l;refine⟨λk j c g=>?_,λf i=>?_,Nat.le_trans h.two b.size⟩;·have a:=h.mh k j c g;simp only[World.cell?]at a⊢;rw[d];exact a
 ·have a:=h.lim f i;simp only[World.cell?]at a⊢;rw[e];exact a
structure Pl where
 low:Nat
 Nd:Nat
 Mp:Nat
 D:Nat
 H:Nat
 S:Nat
structure gI(w:World)(P:Pl)(x:NB)(d:SD)(fs:List FD)(left:Int)(L:Nat)(A:Nat->Prop):Prop where
 blk:dI w P.Nd x.arr 192
 ex:∃vr va,eI w P.low x.St d vr P.Mp P.D/\gB w P.low P.D P.H P.S va fs left L/\(∀g,kW x.St vr P.Mp P.S va g->A g)
 nd:A P.Nd
 pd:A P.D
 ph:A P.H
 two:∀g,A g->2<=g
 lt:∀g,A g->g<w.1.size
 low:P.low<=w.1.size
 tabs:dY w
structure dR(A A':Nat->Prop)(w w':World):Prop where
 kept:dQ A w w'
 grow:∀g,A' g->A g∨w.1.size<=g
section
variable {w w' w0 w1 w2:World} {P:Pl} {x x':NB} {d:SD} {fs:List FD} {left:Int} {L L':Nat} {A B C:Nat->Prop}
def gI.same(h:gI w P x d fs left L A)(hs:w.1.size<=w'.1.size)(a:∀g,A g->w'.1[g]?=w.1[g]?)(j:dY w'):gI w' P x d fs left L A:=by obtain⟨vr,i,f,b,c⟩:=h.ex;refine⟨h.blk.same (a _ h.nd),⟨vr,i,⟨f.blk.same (a _ (c _ (.inl rfl))),dW f.ji (λg e=>a g (c _ (.inr (.inr (.inl e))))),f.jg.same (a _ (c _ (.inr (.inl rfl))))⟩,⟨b.hands.later (a _ h.pd) (a _ h.ph),b.ds.kept (a _ (c _ (.inr (.inr (.inr (.inl rfl)))))) (λg e=>a g (c _ (.inr (.inr (.inr (.inr e)))))),b.dS,b.hS,b.lf,b.fl,b.bd⟩,c⟩,h.nd,h.pd,h.ph,h.two,λg e=>Nat.lt_of_lt_of_le (h.lt g e) hs,Nat.le_trans h.low hs,j⟩
def gI.later(h:gI w P x d fs left L A)(a:Bw w w'):gI w' P x d fs left L A:=h.same a.size (λg b=>a.block g (h.lt g b)) (h.tabs.below a h.tabs.two)
def gI.drew(h:gI w P x d fs left L A):gI w.drew P x d fs left L A:=h.later (b_.drew)
def gI.but{X:Nat}(h:gI w P x d fs left L A)(a:dM X w w')(c:¬A X)(e:2<=X):gI w' P x d fs left L A:=h.same (by rw[a.size];exact Nat.le_refl _) (λg b=>a.block g (λf=>c (f ▸ b))) (h.tabs.below (a.below e) (Nat.le_refl 2))
def gI.mono(h:gI w P x d fs left L A)(c:L<=L'):gI w P x d fs left L' A:=by obtain⟨vr,f,a,e,b⟩:=h.ex;exact⟨h.blk,⟨vr,f,a,e.mono c,b⟩,h.nd,h.pd,h.ph,h.two,h.lt,h.low,h.tabs⟩
def gI.node(h:gI w P x d fs left L A)(a:dM P.Nd w w')(b:dI w' P.Nd x'.arr 192)(hs:x'.St=x.St):gI w' P x' d fs left L A:=by
 obtain⟨vr,e,f,c,i⟩:=h.ex;refine⟨b,⟨vr,e,?_,c.but h.blk dG dG dG dG a,?_⟩,h.nd,h.pd,h.ph,h.two,λg j=>by rw[a.size];exact h.lt g j,by rw[a.size];exact h.low,h.tabs.below (a.below (h.two _ h.nd)) (Nat.le_refl 2)⟩;·rw[hs];exact f.butG h.blk dG dG a
 ·rw[hs];exact i
def dR.of_below(b:Bw w w'):dR A A w w':=⟨dQ.of_below b,λ_ a=>.inl a⟩
def dR.refl:dR A A w w:=.of_below b_
def dR.trans(h:dR A B w w1)(k:dR B C w1 w2):dR A C w w2:=⟨h.kept.trans k.kept (λ_ b=>b) (λg b c=>(h.2 g c).elim id (λa=>absurd b (Nat.not_lt.2 a))),λg b=>(k.2 g b).elim (λa=>h.2 g a) (λa=>.inr (Nat.le_trans h.kept.size a))⟩
def dR.pre(h:dR A B w0 w1)(a:Bw w w0):dR A B w w1:=(dR.of_below a).trans h
def dR.later(h:dR A B w w1)(a:Bw w1 w2):dR A B w w2:=h.trans (.of_below a)
def dR.but{X:Nat}(h:dR A B w w1)(a:dM X w1 w2)(c:w.1.size<=X):dR A B w w2:=⟨⟨a.os.trans h.kept.os,a.tape.trans h.kept.tape,a.output.trans h.kept.output,by rw[a.size];exact h.kept.size,λk b d=>(a.block k (λe=>absurd b (Nat.not_lt.2 (e ▸ c)))).trans (h.kept.block k b d)⟩,h.2⟩
def dR.node{X:Nat}(a:dM X w w')(d:A X):dR A A w w':=⟨⟨a.os,a.tape,a.output,by rw[a.size];exact Nat.le_refl _,λk f e=>a.block k (λb=>e (b ▸ d))⟩,λ_ c=>.inl c⟩
def dR.apart{X:Nat}(h:dR A B w w')(c:X<w.1.size)(d:¬A X):¬B X:=λa=>(h.2 X a).elim d (λb=>absurd c (Nat.not_lt.2 b))
def dR.blk{X:Nat}{cs:Array Value}{ty:TypeId}(h:dR A B w w')(a:dI w X cs ty)(b:¬A X):dI w' X cs ty:=a.same (h.kept.block X a.lt b)
def gI.fresh{X:Nat}(h:gI w P x d fs left L A)(a:w.1.size<=X):¬A X:=λb=>absurd (h.lt X b) (Nat.not_lt.2 a)
end
def eB(t:Nat):Nat:=301*(3*t+2)
structure BG(t:Nat)(d:SD):Prop where
 ne:0<d.recs.length
 recs:d.recs.length<=t+1
 kv:d.3.length<=t
 l0:0<=d.lines
 l1:d.lines<=3*(t:Int)+2
 re:∀r∈d.recs,0<=r.E/\r.E<=10000000000000
 id:0<=d.id/\d.id<5
def BG.next{t:Nat}{d:SD}(h:BG t d):BG (t+1) d:=⟨h.ne,by have:=h.recs;omega,by have:=h.3;omega,h.l0,by have:=h.l1;omega,h.re,h.id⟩
def qD(d:SD)(k e b p s q bl v:Int)(c:List Int):d.recs.length<=(d.step k e b p s q bl v c).recs.length/\(d.step k e b p s q bl v c).recs.length<=d.recs.length+1/\(d.step k e b p s q bl v c).3.length<=d.3.length+1/\(d.step k e b p s q bl v c).lines=d.lines/\(d.step k e b p s q bl v c).id=d.id/\(∀r∈(d.step k e b p s q bl v c).recs,r∈d.recs∨r.E=e+1):=by
 unfold SD.step;split;·exact⟨Nat.le_refl _,sG,BP _ _ _,rfl,rfl,λr a=>.inl a⟩
 split;·exact⟨Nat.le_refl _,sG,BP _ _ _,rfl,rfl,λr a=>.inl a⟩
 split
 ·refine⟨by simp[SD.learn],by simp[SD.learn],?_,rfl,rfl,?_⟩;·have:=KA d.3 (e+1 - 1);show(fT d.3 (e+1 - 1)).length<=_;omega
  ·intro r a;simp[SD.learn]at a;rcases a with a|rfl;·exact .inl a
   ·exact .inr rfl
 split
 ·unfold SD.lg;split;·exact⟨Nat.le_refl _,sG,sG,rfl,rfl,λr a=>.inl a⟩
  split;·exact⟨Nat.le_refl _,sG,sG,rfl,rfl,λr a=>.inl a⟩
  split;·exact⟨Nat.le_refl _,sG,sG,rfl,rfl,λr a=>.inl a⟩
  ·exact⟨Nat.le_refl _,sG,sG,rfl,rfl,λr a=>.inl a⟩
 ·exact⟨Nat.le_refl _,sG,sG,rfl,rfl,λr a=>.inl a⟩
def BG.wrote{t:Nat}{d:SD}{fs:List FD}{left:Int}{m:dN}{ok:Bool}{fs':List FD}{left':Int}{d':SD}(h:BG t d)(a:mB d fs left m ok fs' left' d'):d'.recs=d.recs/\d'.3=d.3/\d'.id=d.id/\0<=d'.lines/\d'.lines<=3*(t:Int)+3:=by
 have e:=h.recs;have b:=h.3;have f:=h.l0;have c:=h.l1;rcases a with⟨_,_,_,_,rfl⟩|⟨_,_,_,_,_,rfl⟩;·exact⟨rfl,rfl,rfl,by show 0<=d.lines+1;omega,by show d.lines+1<=_;omega⟩
 ·exact⟨rfl,rfl,rfl,by show 0<=(d.recs.length:Int)+2*(d.3.length:Int)+1;omega,by show(d.recs.length:Int)+2*(d.3.length:Int)+1<=_;omega⟩
def SD.stepM(d:SD)(m:dN):SD:=d.step m.k m.e m.b m.p m.s m.q m.bl m.v m.zs
def BG.step{t:Nat}{d:SD}{fs:List FD}{left:Int}{m:dN}{ok:Bool}{fs':List FD}{left':Int}{d':SD}(h:BG t d)(i:mB d fs left m ok fs' left' d')(w:e_ m.e):BG (t+1) (bif ok then d'.stepM m else d'):=by
 obtain⟨a,g,c,n,o⟩:=h.wrote i;have x:=h.recs;have u:=h.3;have l:=h.ne;cases ok;·exact⟨by simpa[a] using l,by simp[a];omega,by simp[g];omega,n,nG,by simpa[a] using h.re,by simpa[c] using h.id⟩
 ·obtain⟨s0,s1,s2,s3,s4,s5⟩:=qD d' m.k m.e m.b m.p m.s m.q m.bl m.v m.zs;rw[a]at s0 s1 s5;rw[g]at s2;rw[c]at s4;refine⟨by show 0<(d'.step _ _ _ _ _ _ _ _ _).recs.length;omega,by show(d'.step _ _ _ _ _ _ _ _ _).recs.length<=_;omega,by show(d'.step _ _ _ _ _ _ _ _ _).3.length<=_;omega,by show 0<=(d'.step _ _ _ _ _ _ _ _ _).lines;omega,by show(d'.step _ _ _ _ _ _ _ _ _).lines<=_;omega,?_,by show 0<=(d'.step _ _ _ _ _ _ _ _ _).id/\_;rw[show(bif true then d'.stepM m else d').id=d.id from s4,s4];exact h.id⟩;intro r j;rcases s5 r j with f|f;·exact h.re r f
  ·omega
def i2(P:Pl)(x:NB)(d:SD)(fs:List FD)(left:Int)(t:Nat)(A:Nat->Prop)(m:dN)(ok:Bool)(w w':World):Prop:=∃fs' left' d' A',mB d fs left m ok fs' left' d'/\gI w' P x (bif ok then d'.stepM m else d') fs' left' (eB (t+1)) A'/\dR A A' w w'
def i2.pre{P:Pl}{x:NB}{d:SD}{fs:List FD}{left:Int}{t:Nat}{A:Nat->Prop}{m:dN}{ok:Bool}{w w0 w':World}(h:i2 P x d fs left t A m ok w0 w')(c:Bw w w0):i2 P x d fs left t A m ok w w':=by obtain⟨fs',left',d',A',e,a,b⟩:=h;exact⟨fs',left',d',A',e,a,b.pre c⟩
def i2.later{P:Pl}{x:NB}{d:SD}{fs:List FD}{left:Int}{t:Nat}{A:Nat->Prop}{m:dN}{ok:Bool}{w w1 w':World}(h:i2 P x d fs left t A m ok w w1)(a:Bw w1 w'):i2 P x d fs left t A m ok w w':=by obtain⟨fs',left',d',A',e,b,c⟩:=h;exact⟨fs',left',d',A',e,b.later a,c.later a⟩
def i2.blk{P:Pl}{x:NB}{d:SD}{fs:List FD}{left:Int}{t:Nat}{A:Nat->Prop}{m:dN}{ok:Bool}{w w':World}{X:Nat}{cs:Array Value}{ty:TypeId}(h:i2 P x d fs left t A m ok w w')(b:dI w X cs ty)(c:¬A X):dI w' X cs ty:=by obtain⟨fs',left',d',A',f,e,a⟩:=h;exact a.blk b c
def i2.node{P:Pl}{x x':NB}{d:SD}{fs:List FD}{left:Int}{t:Nat}{A:Nat->Prop}{m:dN}{ok:Bool}{w w1 w2:World}(h:i2 P x d fs left t A m ok w w1)(b:dM P.Nd w1 w2)(e:dI w2 P.Nd x'.arr 192)(hs:x'.St=x.St):i2 P x' d fs left t A m ok w w2:=by obtain⟨fs',left',d',A',f,a,c⟩:=h;exact⟨fs',left',d',A',f,a.node b e hs,c.trans (.node b a.nd)⟩
def i2.at{P:Pl}{x:NB}{d:SD}{fs:List FD}{left:Int}{t:Nat}{A:Nat->Prop}{m:dN}{ok:Bool}{w w':World}(h:i2 P x d fs left t A m ok w w'):dI w' P.Nd x.arr 192:=by obtain⟨fs',left',d',A',c,a,b⟩:=h;exact a.blk
def qT(hSO:fB)(hBW:fH)(hBS:fI)(P:Pl)(x:NB)(d:SD)(fs:List FD)(left:Int)(t:Nat)(A:Nat->Prop)(k f e b wa p s q bl v:Int)(a:Option Addr)(E:List Int)(c:Nat)(w:World)(h:gI w P x d fs left (eB t) A)(z:BG t d)(ht:t<=20000000)(hz:fK w a E)(K:∀C,a=Y C->¬A C.block)(he:e_ e)(L:iI k bl E.length)(M:x.5=false):Calls pG 139 #[P0 (Y ⟨P.Nd,0,Z⟩),.agg (mA k f e b wa p s q bl v (J a E.length c))] w λr w'=>∃ok,r=.returned (.bool ok)/\i2 P (x.after ok) d fs left t A (⟨k,f,e,b,wa,p,s,q,bl,v,a,c,E⟩:dN) ok w w':=by
 obtain⟨vr,va,W,R,m⟩:=h.ex;have b1:=z.recs;have b2:=z.3;have U:=z.l0;have b4:=z.l1;refine(KJ hSO hBW hBS P.Nd x P.low d vr P.Mp P.D P.H P.S va fs left (eB t) k f e b wa p s q bl v a E c w W R h.tabs hz h.tabs.two h.low (by unfold eB;omega) oG oG ⟨U,oG⟩ (h.two _ (m _ (.inl rfl))) (λC B u=>K C B (u ▸ m _ (.inl rfl))) z.ne z.re z.id he L (λC B u=>K C B (m _ u)) h.blk M).mono ?_;rintro r w' ⟨ok,fs',left',d',o,n,rfl,g1,V,O,N,g5,Q,X⟩;have hs':(x.after ok).St=x.St:=by cases ok<;>rfl
 have l:dQ A w w':=X.wide (λg F=>F.elim (λi=>i ▸ h.nd) (λi=>m g i));have y:∀g,kW x.St o P.Mp P.S n g->A g∨(w.1.size<=g/\g<w'.1.size):=by
  rintro g (i|i|i|i|i);·exact .inl (m g (.inl i))
  ·exact .inl (m g (.inr (.inl i)))
  ·rcases Q g i with j|j;·exact .inl (m g (.inr (.inr (.inl j))))
   ·exact .inr ⟨j,(O.ji.lt g i).2⟩
  ·exact .inl (m g (.inr (.inr (.inr (.inl i)))))
  ·rcases g5 g i with j|j;·exact .inl (m g (.inr (.inr (.inr (.inr j)))))
   ·exact .inr ⟨j,(N.ds.row.lt g i).2⟩
 refine⟨ok,rfl,fs',left',d',λg=>A g∨kW x.St o P.Mp P.S n g,g1,⟨V,⟨o,n,?_,N.mono (Nat.max_le.2 (by unfold eB;constructor<;>omega)),?_⟩,.inl h.nd,.inl h.pd,.inl h.ph,?_,?_,Nat.le_trans h.low l.size,h.tabs.kept l (λu=>absurd (h.two _ u) oG) (λu=>absurd (h.two _ u) oG)⟩,⟨l,λg F=>F.elim .inl (λi=>(y g i).imp id (λj=>j.1))⟩⟩;·rw[hs'];exact O
 ·rw[hs'];exact λg F=>.inr F
 ·rintro g (i|i);·exact h.two g i
  ·rcases y g i with j|j;·exact h.two g j
   ·have:=h.tabs.two;omega
 ·rintro g (i|i);·exact Nat.lt_of_lt_of_le (h.lt g i) l.size
  ·rcases y g i with j|j;·exact Nat.lt_of_lt_of_le (h.lt g j) l.size
   ·exact j.2
structure kX(w:World)(Nd:Nat)(x:NB):Prop where
 blk:dI w Nd x.arr 192
def kX.later{w w':World}{Nd:Nat}{x:NB}(h:kX w Nd x)(a:Bw w w'):kX w' Nd x:=⟨h.blk.later a⟩
def kX.drew{w:World}{Nd:Nat}{x:NB}(h:kX w Nd x):kX w.drew Nd x:=⟨h.blk.drew⟩
def OE(Nd:Nat)(x:NB)(f e b wa p s q bl v:Int)(a:Option Addr)(g:List Int)(c:Nat)(w:World)(h:kX w Nd x):Calls pG 247 #[P0 (Y ⟨Nd,0,Z⟩),.agg (mA 7 f e b wa p s q bl v (J a g.length c))] w λr w'=>r=.returned (.bool (decide (bl<x.nb)))/\Bw w w':=by have d:=(Below.refl w.1.size w).alloc r_ (G (mA 7 f e b wa p s q bl v (J a g.length c)) 136);have k:=dF (dI.new w (mA 7 f e b wa p s q bl v (J a g.length c)) 136);have l:=dF d;have j:=dF (h.later d);clear h;clear d;go_enter func247,ntmps247;go_upto_region 1 with fail;generalize (w.alloc (G (mA 7 f e b wa p s q bl v (J a g.length c)) 136))=n at*;have m:=k.cell;have i:=j.blk.cell 2;simp at i;go_wp2_with fail;go_quiet (fail);go_wp2;go_ret;exact⟨rfl,below_drewN l _⟩
def OF(Nd:Nat)(x:NB)(f e b wa p s q bl v:Int)(a:Option Addr)(g:List Int)(c:Nat)(w:World)(h:kX w Nd x):Calls pG 247 #[P0 (Y ⟨Nd,0,Z⟩),.agg (mA 9 f e b wa p s q bl v (J a g.length c))] w λr w'=>r=.returned (.bool (((g.length:Int)==x.nb)))/\Bw w w':=by have d:=(Below.refl w.1.size w).alloc r_ (G (mA 9 f e b wa p s q bl v (J a g.length c)) 136);have k:=dF (dI.new w (mA 9 f e b wa p s q bl v (J a g.length c)) 136);have l:=dF d;have j:=dF (h.later d);clear h;clear d;go_enter func247,ntmps247;go_upto_region 1 with fail;generalize (w.alloc (G (mA 9 f e b wa p s q bl v (J a g.length c)) 136))=n at*;have m:=k.cell;have i:=j.blk.cell 2;simp at i;go_wp2_with fail;go_quiet (fail);go_wp2;go_ret;exact⟨rfl,below_drewN l _⟩
def AZ(low Nd:Nat)(d:SD)(vr:Value)(Mp D:Nat)(x:NB)(E:Nat)(w:World)(q:kX w Nd x)(h:eI w low x.St d vr Mp D)(O:E+1<d.recs.length)(i:d.recs.length<=100000000):Calls pG 238 #[P0 (Y ⟨Nd,0,Z⟩),I (E:Int)] w λr w'=>r=.returned (.agg (mA 6 0 (E:Int) 0 0 ((d.recs.getD (E+1) ⟨0,0,0⟩).P) ((d.recs.getD (E+1) ⟨0,0,0⟩).S) 0 0 0 (J Z 0 0)))/\Bw w w':=by
 have b:=(Below.refl w.1.size w).alloc r_ (G mz 136);have M:=dF (dI.new w mz 136);have o:=dF b;have p:=dF (q.later b);have R:=dF (h.later b);have L:Hid ((E:Int)+1=((E+1:Nat):Int)):=by unfold Hid;omega
 clear b q h;go_enter func238,ntmps238;go_upto_region 1 with fail;generalize (w.alloc (G mz 136))=s at*;have c3:=p.blk.cell 3;simp at c3;have z:=p.blk.lt;have j:=o.size;go_wp2_with fail;rw[L.out];refine(AW low x.St d vr Mp D (E+1) s R O i).mono ?_;rintro r w1 ⟨rfl,f⟩;have c:=dF (M.later f);have g:Hid (Bw w w1):=o.trans (f.mono j);clear f;generalize e:(d.recs.getD (E+1) ⟨0,0,0⟩)=a at*;replace e:=e.symm;have B:=c.cell;have A:=c.free;have X:=c.lt;have H:=g.size;have m:=dF e;clear e;go_wp2;have k:Hid (Bw w ((((((((((((w1.setCell ⟨w.1.size,0,Z⟩ (I 6)).setCell ⟨w.1.size,1,Z⟩ (I 0)).setCell ⟨w.1.size,2,Z⟩ (I (E:Int))).setCell ⟨w.1.size,3,Z⟩ (I 0)).setCell ⟨w.1.size,4,Z⟩ (I 0)).setCell ⟨w.1.size,5,Z⟩ (I a.P)).setCell ⟨w.1.size,6,Z⟩ (I a.S)).setCell ⟨w.1.size,7,Z⟩ (I 0)).setCell ⟨w.1.size,8,Z⟩ (I 0)).setCell ⟨w.1.size,9,Z⟩ (I 0)).setCell ⟨w.1.size,10,Z⟩ (J Z 0 0)).alloc (G #[I a.E,I a.P,I a.S] 66))):=(iH (iH (iH (iH (iH (iH (iH (iH (iH (iH (iH g r_ 0 (I 6)) r_ 1 (I 0)) r_ 2 (I (E:Int))) r_ 3 (I 0)) r_ 4 (I 0)) r_ 5 (I a.P)) r_ 6 (I a.S)) r_ 7 (I 0)) r_ 8 (I 0)) r_ 9 (I 0)) r_ 10 (J Z 0 0)).alloc (by simp only[CG];omega) _;have l:Hid (dI ((((((((((((w1.setCell ⟨w.1.size,0,Z⟩ (I 6)).setCell ⟨w.1.size,1,Z⟩ (I 0)).setCell ⟨w.1.size,2,Z⟩ (I (E:Int))).setCell ⟨w.1.size,3,Z⟩ (I 0)).setCell ⟨w.1.size,4,Z⟩ (I 0)).setCell ⟨w.1.size,5,Z⟩ (I a.P)).setCell ⟨w.1.size,6,Z⟩ (I a.S)).setCell ⟨w.1.size,7,Z⟩ (I 0)).setCell ⟨w.1.size,8,Z⟩ (I 0)).setCell ⟨w.1.size,9,Z⟩ (I 0)).setCell ⟨w.1.size,10,Z⟩ (J Z 0 0)).alloc (G #[I a.E,I a.P,I a.S] 66)) w.1.size (mA 6 0 (E:Int) 0 0 a.P a.S 0 0 0 (J Z 0 0)) 136):=by have U:=((((((((((((c.set 0 (I 6)).set 1 (I 0)).set 2 (I (E:Int))).set 3 (I 0)).set 4 (I 0)).set 5 (I a.P)).set 6 (I a.S)).set 7 (I 0)).set 8 (I 0)).set 9 (I 0)).set 10 (J Z 0 0)).old (G #[I a.E,I a.P,I a.S] 66));unfold Hid;simpa using U
 generalize ((((((((((((w1.setCell ⟨w.1.size,0,Z⟩ (I 6)).setCell ⟨w.1.size,1,Z⟩ (I 0)).setCell ⟨w.1.size,2,Z⟩ (I (E:Int))).setCell ⟨w.1.size,3,Z⟩ (I 0)).setCell ⟨w.1.size,4,Z⟩ (I 0)).setCell ⟨w.1.size,5,Z⟩ (I a.P)).setCell ⟨w.1.size,6,Z⟩ (I a.S)).setCell ⟨w.1.size,7,Z⟩ (I 0)).setCell ⟨w.1.size,8,Z⟩ (I 0)).setCell ⟨w.1.size,9,Z⟩ (I 0)).setCell ⟨w.1.size,10,Z⟩ (J Z 0 0)).alloc (G #[I a.E,I a.P,I a.S] 66))=W9 at*;obtain⟨u,F,W,K,Q,N,C,y,V,t,n⟩:=l.c11;exact bodyPost_ret (v:=.agg (mA 6 0 (E:Int) 0 0 a.P a.S 0 0 0 (J Z 0 0))) (by simp[results,results238,go_sem,u,F,W,K,Q,N,C,y,V,t,n]) rfl ⟨by rw[m.out],k⟩
def oL:(Tryz.prog.info? 136).map (·.size)=Y 11:=kG
def KK(low Nd:Nat)(d:SD)(vr:Value)(Mp D:Nat)(x:NB)(k f:Int)(b wa p s q bl v:Int)(ms:Value)(w:World)(H:kX w Nd x)(h:eI w low x.St d vr Mp D)(m:0<d.recs.length)(l:d.recs.length<=100000000)(e:Int)(he:(d.recs.length:Int) - 1<=e):Calls pG 248 #[P0 (Y ⟨Nd,0,Z⟩),.agg (mA k f e b wa p s q bl v ms)] w λr w'=>r=.returned (.agg mz)/\Bw w w':=by
 have R:decide (e<(d.recs.length:Int) - 1)=false:=nG;have a:=((Below.refl w.1.size w).alloc r_ (G (mA k f e b wa p s q bl v ms) 136)).alloc sG (G mz 136);have A:Hid (dI ((w.alloc (G (mA k f e b wa p s q bl v ms) 136)).alloc (G mz 136)) w.1.size (mA k f e b wa p s q bl v ms) 136):=(dI.new _ _ _).old _;have C:Hid (dI ((w.alloc (G (mA k f e b wa p s q bl v ms) 136)).alloc (G mz 136)) (w.1.size+1) mz 136):=by have h9:=dI.new (w.alloc (G (mA k f e b wa p s q bl v ms) 136)) mz 136;unfold Hid;simpa using h9
 have B:=dF a;have E:=dF (H.later a);have HS:=dF (h.later a);clear a H h;go_enter func248,ntmps248;go_upto_region 1 with fail;generalize ((w.alloc (G (mA k f e b wa p s q bl v ms) 136)).alloc (G mz 136))=j at*;have c3:=E.blk.cell 3;simp at c3;have V:=A.cell;have O:=E.blk.lt;have a0:=A.lt;have K:=C.lt;have n:=B.size;go_quiet (first|(go_at_call 179;exact Calls.quiet_of_same (oX low x.St d vr Mp D _ (HS.later (below_drewN b_ _)) m l)));have c:Bw j (j.drewN nq):=below_drewN b_ _;have g:=dF (C.later c);have y:=dF (B.trans (c.mono n));generalize j.drewN nq=W1 at*;have z:=qB (P:=pG) (t:=136) (i:=0) (vs:=mz) g oL sG sG (by intro u F;simp at F;rcases F with rfl|rfl<;>rfl);obtain⟨M,S,q2,U,X,W,Q,N,q8,L,o⟩:=g.c11;go_wp2_with(refine qA rfl 136 _ _ rfl _ _ rfl rfl z ?_);exact bodyPost_ret (v:=.agg mz) (by simp[results,results248,go_sem,M,S,q2,U,X,W,Q,N,q8,L,o]) rfl ⟨rfl,y⟩
def MJ(low Nd:Nat)(d:SD)(vr:Value)(Mp D:Nat)(x:NB)(k f:Int)(b wa p s q bl v:Int)(ms:Value)(w:World)(U:kX w Nd x)(h:eI w low x.St d vr Mp D)(u:0<d.recs.length)(j:d.recs.length<=100000000)(E:Nat)(hE:E+1<d.recs.length):Calls pG 248 #[P0 (Y ⟨Nd,0,Z⟩),.agg (mA k f (E:Int) b wa p s q bl v ms)] w λr w'=>r=.returned (.agg (mA 6 0 (E:Int) 0 0 ((d.recs.getD (E+1) ⟨0,0,0⟩).P) ((d.recs.getD (E+1) ⟨0,0,0⟩).S) 0 0 0 (J Z 0 0)))/\Bw w w':=by
 have a3:decide ((E:Int)<(d.recs.length:Int) - 1)=true:=nG;have c:=((Below.refl w.1.size w).alloc r_ (G (mA k f (E:Int) b wa p s q bl v ms) 136)).alloc sG (G mz 136);have o:Hid (dI ((w.alloc (G (mA k f (E:Int) b wa p s q bl v ms) 136)).alloc (G mz 136)) w.1.size (mA k f (E:Int) b wa p s q bl v ms) 136):=(dI.new _ _ _).old _;have H:Hid (dI ((w.alloc (G (mA k f (E:Int) b wa p s q bl v ms) 136)).alloc (G mz 136)) (w.1.size+1) mz 136):=by have h9:=dI.new (w.alloc (G (mA k f (E:Int) b wa p s q bl v ms) 136)) mz 136;unfold Hid;simpa using h9
 have B:=dF c;have t:=dF (U.later c);have M:=dF (h.later c);clear c U h;go_enter func248,ntmps248;go_upto_region 1 with fail;generalize ((w.alloc (G (mA k f (E:Int) b wa p s q bl v ms) 136)).alloc (G mz 136))=n at*;have c3:=t.blk.cell 3;simp at c3;have y:=o.cell;have a1:=t.blk.lt;have a4:=o.lt;have V:=H.lt;have z:=B.size;go_quiet (first|(go_at_call 179;exact Calls.quiet_of_same (oX low x.St d vr Mp D _ (M.later (below_drewN b_ _)) u j)));have a:Bw n (n.drewN nq):=below_drewN b_ _;have L:=dF (H.later a);have Q:=dF (o.later a);have K:=dF (t.later a);have A:=dF (M.later a);have m:=dF (B.trans (a.mono z));generalize n.drewN nq=W1 at*;clear a c3 H o t M B y;have a0:=Q.cell;go_wp2_with fail;refine(AZ low Nd d vr Mp D x E W1 K A hE j).mono ?_;rintro r w2 ⟨rfl,g⟩;have e:=dF (L.later g);have N:=dF (m.trans (g.mono m.size));clear g;generalize l:(d.recs.getD (E+1) ⟨0,0,0⟩)=i at*;have O:=dF l.symm;clear l;have a5:=e.cell;have a2:=e.free;go_wp2;have C:=dF (rQ (w.1.size+1) N (Nat.le_succ _) (I 6) (I 0) (I (E:Int)) (I 0) (I 0) (I i.P) (I i.S) (I 0) (I 0) (I 0) (J Z 0 0));have F:=dF (e.s11 (I 6) (I 0) (I (E:Int)) (I 0) (I 0) (I i.P) (I i.S) (I 0) (I 0) (I 0) (J Z 0 0));generalize World.setCell _ _ _=W9 at*;obtain⟨X,q1,q2,q3,q4,q5,q6,q7,q8,W,R⟩:=F.c11;exact bodyPost_ret (v:=.agg (mA 6 0 (E:Int) 0 0 i.P i.S 0 0 0 (J Z 0 0))) (by simp[results,results248,go_sem,X,q1,q2,q3,q4,q5,q6,q7,q8,W,R]) rfl ⟨by rw[O.out],C⟩
def nF(k:Int):Int:=if k=9 then 10 else 8
def wG(k f e b wa p s q bl v:Int)(ms:Value)(w:World):
  Calls pG 249 #[.agg (mA k f e b wa p s q bl v ms)] w λr w'=>r=.returned (I (nF k))/\Bw w w':=IM k f e b wa p s q bl v ms w
def mK(k nb bl:Int)(n:Nat):Bool:=if k=9 then((n:Int)==nb) else decide (bl<nb)
def PR(Nd:Nat)(x:NB)(k f e b wa p s q bl v:Int)(a:Option Addr)(d:List Int)(c:Nat)(w:World)(h:kX w Nd x)(g:k=7∨k=9):Calls pG 247 #[P0 (Y ⟨Nd,0,Z⟩),.agg (mA k f e b wa p s q bl v (J a d.length c))] w λr w'=>r=.returned (.bool (mK k x.nb bl d.length))/\Bw w w':=by
 rcases g with rfl|rfl;·exact OE Nd x f e b wa p s q bl v a d c w h
 ·exact OF Nd x f e b wa p s q bl v a d c w h
def KL(low Nd:Nat)(d:SD)(vr:Value)(Mp D:Nat)(x:NB)(k f b wa p s q bl v:Int)(a:Option Addr)(l:List Int)(c:Nat)(w:World)(hn:kX w Nd x)(h:eI w low x.St d vr Mp D)(C:0<d.recs.length)(a4:d.recs.length<=26000000)(E:Nat)(hE:E+1<d.recs.length):Calls pG 196 #[P0 (Y ⟨Nd,0,Z⟩),.agg (mA k f (E:Int) b wa p s q bl v (J a l.length c))] w λr w'=>r=.returned (.agg (mA 6 0 (E:Int) 0 0 ((d.recs.getD (E+1) ⟨0,0,0⟩).P) ((d.recs.getD (E+1) ⟨0,0,0⟩).S) 0 0 0 (J Z 0 0)))/\Bw w w':=by
 have a6:decide ((E:Int)<(d.recs.length:Int) - 1)=true:=nG;have g:=((Below.refl w.1.size w).alloc r_ (G (mA k f (E:Int) b wa p s q bl v (J a l.length c)) 136)).alloc sG (G mz 136);have z:Hid (dI ((w.alloc (G (mA k f (E:Int) b wa p s q bl v (J a l.length c)) 136)).alloc (G mz 136)) w.1.size (mA k f (E:Int) b wa p s q bl v (J a l.length c)) 136):=(dI.new _ _ _).old _;have X:Hid (dI ((w.alloc (G (mA k f (E:Int) b wa p s q bl v (J a l.length c)) 136)).alloc (G mz 136)) (w.1.size+1) mz 136):=by have h9:=dI.new (w.alloc (G (mA k f (E:Int) b wa p s q bl v (J a l.length c)) 136)) mz 136;unfold Hid;simpa using h9
 have W:=dF g;have B:=dF (hn.later g);have N:=dF (h.later g);have a2:=dF hn;have a3:=dF h;clear g hn h;go_enter func196,ntmps196;go_upto_region 1 with fail;generalize ((w.alloc (G (mA k f (E:Int) b wa p s q bl v (J a l.length c)) 136)).alloc (G mz 136))=A at*;have c3:=B.blk.cell 3;simp at c3;have K:=z.cell;have H:=B.blk.lt;have O:=z.lt;have R:=X.lt;have n:=W.size;go_quiet (first|(go_at_call 179;exact Calls.quiet_of_same (oX low x.St d vr Mp D _ (N.later (below_drewN b_ _)) C oG)));have e:Bw A (A.drewN nq):=below_drewN b_ _;have o:=dF (X.later e);have y:=dF (z.later e);have M:=dF (B.later e);have F:=dF (N.later e);have t:=dF (W.trans (e.mono n));generalize A.drewN nq=W1 at*;clear e c3 X z B N W H O R n K;have V:=y.cell;go_wp2_with fail;refine(AZ low Nd d vr Mp D x E W1 M F hE oG).mono ?_;rintro r w2 ⟨rfl,j⟩;have i:=dF (o.later j);have Q:=dF (t.trans (j.mono t.size));clear j y o V;generalize u:(d.recs.getD (E+1) ⟨0,0,0⟩)=m at*;have a0:=dF u.symm;clear u;have a7:=i.cell;have a5:=i.free;have U:=dF (rQ (w.1.size+1) Q (Nat.le_succ _) (I 6) (I 0) (I (E:Int)) (I 0) (I 0) (I m.P) (I m.S) (I 0) (I 0) (I 0) (J Z 0 0));have L:=dF (i.s11 (I 6) (I 0) (I (E:Int)) (I 0) (I 0) (I m.P) (I m.S) (I 0) (I 0) (I 0) (J Z 0 0));go_wp2;generalize World.setCell _ _ _=W9 at*;obtain⟨q0,q1,q2,q3,q4,q5,q6,q7,q8,q9,a1⟩:=L.c11;exact bodyPost_ret (v:=.agg (mA 6 0 (E:Int) 0 0 m.P m.S 0 0 0 (J Z 0 0))) (by simp[results,results196,go_sem,q0,q1,q2,q3,q4,q5,q6,q7,q8,q9,a1]) rfl ⟨by rw[a0.out],U⟩
@[reducible] def iO.ag(m:iO):Value:=.agg (mA m.k m.f m.e m.b m.wa m.p m.s m.q m.bl m.v (J Z 0 0))
def SD.ep(d:SD):Int:=(d.recs.length:Int) - 1
def PV.nk(x y:PV):Bool:=(x.pr==y.pr)&&(x.ac==y.ac)&&(x.pm==y.pm)&&(x.st==y.st)
def SD.qi(d:SD)(e:Int):eM:=d.recs.getD e.toNat ⟨0,0,0⟩
def eP(d:SD)(k e b:Int):iO:=
 if e<d.ep then⟨6,0,e,0,0,(d.qi (e+1)).P,(d.qi (e+1)).S,0,0,0⟩
 else if b<(dJ d.3 e).pr then⟨5,0,e,b,(dJ d.3 e).pr,0,0,0,0,0⟩
 else if k=3 then⟨4,0,e,b,0,0,0,0,0,0⟩ else⟨2,0,e,b,(dJ d.3 e).ac,(dJ d.3 e).pm,(dJ d.3 e).st,0,0,0⟩
def jA(d:SD)(k e b p s:Int):Bool:=!decide (e<d.ep)&&(!decide (b<(dJ d.3 e).pr)&&!(((dJ d.3 e).after k b p s).nk (dJ d.3 e)))
def kY(need:Bool)(P:Pl)(x x':NB)(d:SD)(fs:List FD)(left:Int)(t:Nat)(A:Nat->Prop)(m:dN)(ok:Bool)(w w':World):Prop:=
 (need=false/\ok=true/\gI w' P x d fs left (eB t) A/\dR A A w w')∨(need=true/\i2 P x' d fs left t A m ok w w')
def qU(need:Bool)(P:Pl)(x:NB)(xf:Bool->NB)(d:SD)(fs:List FD)(left:Int)(t:Nat)(A:Nat->Prop)(m:dN)(rf:Bool->Value)(r:Ending)(w w':World):Prop:=(∃ok:Bool,(r=.returned (rf ok))/\(kY need P x (xf ok) d fs left t A m ok w w'))
def qU.mk{a:Bool}{P:Pl}{x:NB}{xf:Bool->NB}{d:SD}{fs:List FD}{left:Int}{t:Nat}{A:Nat->Prop}{m:dN}{rf:Bool->Value}{r:Ending}{w w':World}(ok:Bool)(h:r=.returned (rf ok))(k:kY a P x (xf ok) d fs left t A m ok w w'):qU a P x xf d fs left t A m rf r w w':=⟨ok,h,k⟩
def i2.put{P:Pl}{x:NB}{d:SD}{fs:List FD}{left:Int}{t:Nat}{A:Nat->Prop}{m:dN}{ok:Bool}{w0 w w1 w2:World}{X:Nat}(h:i2 P x d fs left t A m ok w w1)(c:Bw w0 w)(a:dM X w1 w2)(f:w0.1.size<=X)(i:X<w.1.size)(k:¬A X)(e:2<=X):i2 P x d fs left t A m ok w0 w2:=by obtain⟨fs',left',d',A',g,j,b⟩:=h;exact⟨fs',left',d',A',g,j.but a (b.apart i k) e,(b.pre c).but a f⟩
def rI{x y:PV}(h:x.nk y=true):x=y:=by cases x;cases y;simp[PV.nk]at h⊢;omega
end Go.Proofs.YtdcainmlcpafbaaGreatDoor
