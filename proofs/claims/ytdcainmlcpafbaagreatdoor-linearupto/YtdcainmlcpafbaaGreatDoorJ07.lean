import Derived.Test.YtdcainmlcpafbaaGreatDoorJ06
import Derived.Laws.CopyRow
import Derived.Shelf.SlIter.Collect
set_option linter.all false
set_option maxHeartbeats 8000000
set_option maxRecDepth 20000
namespace Go.Proofs.YtdcainmlcpafbaaGreatDoor
open Value renaming slice->J,pointer->P0
open Tryz
open Tryz renaming prog->pG
open IntKind renaming i64->T
open Option renaming none->Z,some->Y
open Obj renaming cells->G
section
open Go.RowKit
open Value (bool)
def H9(low St:Nat)(d:SD)(vr:Value)(Mp D:Nat)(f e b wa p s q bl v:Int)(ms:Value)(w:World)(h:eE w low St d vr Mp D)(B:0<=d.id/\d.id<5)(C:low<=w.heap.size)(n:d.recs.length<=100000000)(L:0<=e/\e<=1000000000000):Calls pG 220 #[P0 (Y ⟨St,0,Z⟩),.agg (mA 6 f e b wa p s q bl v ms)] w λr w'=>r=.returned (.tuple #[])/\∃a,eE w' low St (d.learn (e+1) p s) a Mp D/\dM (λg=>g=St∨g=Mp∨vr.ownBlock=Y g) w w'/\(∀g,a.ownBlock=Y g->vr.ownBlock=Y g∨w.heap.size<=g):=by have c:=a_ w (G (mA 6 f e b wa p s q bl v ms) 136);have F:=dA (dC.new w (mA 6 f e b wa p s q bl v ms) 136);have z:=dA (h.later c);have H:=dA c;have E:=h.blk.lt;have K:St≠w.heap.size:=oG;clear h c;go_enter func220,ntmps220;go_upto_region 1 with fail;generalize (w.alloc (G (mA 6 f e b wa p s q bl v ms) 136))=M at*;have Q:=z.blk.cell 2;simp at Q;have O:=F.cell;have S:=z.blk.lt;have U:=F.lt;go_wp2_with fail;refine(zL 6 f e b wa p s q bl v ms M L.1 L.2).mono ?_;rintro r w1 ⟨rfl,j⟩;have t:=dA (z.later j);have i:=dA (H.trans (j.mono H.size));clear j;go_wp2_with fail;refine(H6 low St d vr Mp D (e+1) p s w1 t B (Nat.le_trans C i.size) n ⟨oG,oG⟩).mono ?_;rintro r w2 ⟨rfl,a,m,k,l⟩;have o:Hid (∀g,a.ownBlock=Y g->vr.ownBlock=Y g∨w.heap.size<=g):=λg N=>(l g N).imp id (λR=>Nat.le_trans i.size R);clear l;have u:=dA m;have x:=dA ((dM.of_below (A:=λ_=>False) i).trans k (λ_ y=>y.elim) (λ_ _ y=>y));clear m k;go_wp2;exact bodyPost_end (v:=.tuple #[]) (by simp[results,results220,go_sem]) rfl ⟨rfl,a,u,x,o⟩
def KP(low St:Nat)(d:SD)(vr:Value)(Mp D:Nat)(f e b wa p s q v:Int)(ms:Value)(w:World)(h:eE w low St d vr Mp D):Calls pG 220 #[P0 (Y ⟨St,0,Z⟩),.agg (mA 7 f e b wa p s q 0 v ms)] w λr w'=>r=.returned (.tuple #[])/\eE w' low St {d with seen:=e,last:=q,b0:=v} vr Mp D/\dM (λg=>g=St) w w':=by
 have j:=a_ w (G (mA 7 f e b wa p s q 0 v ms) 136);have u:=dA (dC.new w (mA 7 f e b wa p s q 0 v ms) 136);have c:=dA (h.later j);have F:=dA j;have t:=h.blk.lt;have x:St≠w.heap.size:=oG;clear h j;go_enter func220,ntmps220;go_upto_region 1 with fail;generalize (w.alloc (G (mA 7 f e b wa p s q 0 v ms) 136))=m at*;have H:=c.blk.cell;have C:=c.blk.free;have y:=u.cell;have L:=c.blk.lt;have M:=u.lt;have i:=c.jb.ne c.blk;go_upto_region 9 with fail;go_region;all_goals go_wp2
 all_goals
  have a:dI St m (((m.setCell ⟨St,7,Z⟩ (I e)).setCell ⟨St,8,Z⟩ (I q)).setCell ⟨St,3,Z⟩ (I v)):=((((dI.kz St m).set2 7 _).set2 8 _).set2 3 _);have n:dC (((m.setCell ⟨St,7,Z⟩ (I e)).setCell ⟨St,8,Z⟩ (I q)).setCell ⟨St,3,Z⟩ (I v)) St #[I d.id,vr,Value.map (Y Mp),I v,I d.b1,I d.b2,I d.b3,I e,I q,P0 (Y ⟨D,0,Z⟩),I d.lines,bool d.wh] 200:=by have K:=((c.blk.set 7 (I e)).set 8 (I q)).set 3 (I v);simpa using K
  have o:=jM c.rcs c.blk.blk dG;refine bodyPost_end (v:=.tuple #[]) (by simp[results,results220,go_sem]) rfl ⟨rfl,⟨⟨n.blk⟩,dQ c.rcs (λg z=>a.block g (λl=>o (by rw[←l];exact z))),c.jb.same (a.block Mp i)⟩,?_⟩;exact(dM.of_below (A:=λ_=>False) F).trans (B:=λg=>g=St) ⟨a.os,a.tape,a.output,by exact Nat.le_of_eq a.size.symm,λk _ E=>a.block k E⟩ (λ_ l=>l.elim) (λ_ _ l=>l)
def KQ(low St:Nat)(d:SD)(vr:Value)(Mp D:Nat)(f e b wa p s q v:Int)(ms:Value)(w:World)(h:eE w low St d vr Mp D):Calls pG 220 #[P0 (Y ⟨St,0,Z⟩),.agg (mA 7 f e b wa p s q 1 v ms)] w λr w'=>r=.returned (.tuple #[])/\eE w' low St {d with seen:=e,last:=q,b1:=v} vr Mp D/\dM (λg=>g=St) w w':=by
 have j:=a_ w (G (mA 7 f e b wa p s q 1 v ms) 136);have u:=dA (dC.new w (mA 7 f e b wa p s q 1 v ms) 136);have c:=dA (h.later j);have F:=dA j;have t:=h.blk.lt;have x:St≠w.heap.size:=oG;clear h j;go_enter func220,ntmps220;go_upto_region 1 with fail;generalize (w.alloc (G (mA 7 f e b wa p s q 1 v ms) 136))=m at*;have H:=c.blk.cell;have C:=c.blk.free;have y:=u.cell;have L:=c.blk.lt;have M:=u.lt;have i:=c.jb.ne c.blk;go_upto_region 9 with fail;go_region;all_goals go_wp2
 all_goals
  have a:dI St m (((m.setCell ⟨St,7,Z⟩ (I e)).setCell ⟨St,8,Z⟩ (I q)).setCell ⟨St,4,Z⟩ (I v)):=((((dI.kz St m).set2 7 _).set2 8 _).set2 4 _);have n:dC (((m.setCell ⟨St,7,Z⟩ (I e)).setCell ⟨St,8,Z⟩ (I q)).setCell ⟨St,4,Z⟩ (I v)) St #[I d.id,vr,Value.map (Y Mp),I d.b0,I v,I d.b2,I d.b3,I e,I q,P0 (Y ⟨D,0,Z⟩),I d.lines,bool d.wh] 200:=by have K:=((c.blk.set 7 (I e)).set 8 (I q)).set 4 (I v);simpa using K
  have o:=jM c.rcs c.blk.blk dG;refine bodyPost_end (v:=.tuple #[]) (by simp[results,results220,go_sem]) rfl ⟨rfl,⟨⟨n.blk⟩,dQ c.rcs (λg z=>a.block g (λl=>o (by rw[←l];exact z))),c.jb.same (a.block Mp i)⟩,?_⟩;exact(dM.of_below (A:=λ_=>False) F).trans (B:=λg=>g=St) ⟨a.os,a.tape,a.output,by exact Nat.le_of_eq a.size.symm,λk _ E=>a.block k E⟩ (λ_ l=>l.elim) (λ_ _ l=>l)
def KR(low St:Nat)(d:SD)(vr:Value)(Mp D:Nat)(f e b wa p s q v:Int)(ms:Value)(w:World)(h:eE w low St d vr Mp D):Calls pG 220 #[P0 (Y ⟨St,0,Z⟩),.agg (mA 7 f e b wa p s q 2 v ms)] w λr w'=>r=.returned (.tuple #[])/\eE w' low St {d with seen:=e,last:=q,b2:=v} vr Mp D/\dM (λg=>g=St) w w':=by
 have j:=a_ w (G (mA 7 f e b wa p s q 2 v ms) 136);have u:=dA (dC.new w (mA 7 f e b wa p s q 2 v ms) 136);have c:=dA (h.later j);have F:=dA j;have t:=h.blk.lt;have x:St≠w.heap.size:=oG;clear h j;go_enter func220,ntmps220;go_upto_region 1 with fail;generalize (w.alloc (G (mA 7 f e b wa p s q 2 v ms) 136))=m at*;have H:=c.blk.cell;have C:=c.blk.free;have y:=u.cell;have L:=c.blk.lt;have M:=u.lt;have i:=c.jb.ne c.blk;go_upto_region 9 with fail;go_region;all_goals go_wp2
 all_goals
  have a:dI St m (((m.setCell ⟨St,7,Z⟩ (I e)).setCell ⟨St,8,Z⟩ (I q)).setCell ⟨St,5,Z⟩ (I v)):=((((dI.kz St m).set2 7 _).set2 8 _).set2 5 _);have n:dC (((m.setCell ⟨St,7,Z⟩ (I e)).setCell ⟨St,8,Z⟩ (I q)).setCell ⟨St,5,Z⟩ (I v)) St #[I d.id,vr,Value.map (Y Mp),I d.b0,I d.b1,I v,I d.b3,I e,I q,P0 (Y ⟨D,0,Z⟩),I d.lines,bool d.wh] 200:=by have K:=((c.blk.set 7 (I e)).set 8 (I q)).set 5 (I v);simpa using K
  have o:=jM c.rcs c.blk.blk dG;refine bodyPost_end (v:=.tuple #[]) (by simp[results,results220,go_sem]) rfl ⟨rfl,⟨⟨n.blk⟩,dQ c.rcs (λg z=>a.block g (λl=>o (by rw[←l];exact z))),c.jb.same (a.block Mp i)⟩,?_⟩;exact(dM.of_below (A:=λ_=>False) F).trans (B:=λg=>g=St) ⟨a.os,a.tape,a.output,by exact Nat.le_of_eq a.size.symm,λk _ E=>a.block k E⟩ (λ_ l=>l.elim) (λ_ _ l=>l)
def KS(low St:Nat)(d:SD)(vr:Value)(Mp D:Nat)(f e b wa p s q v:Int)(ms:Value)(w:World)(h:eE w low St d vr Mp D):Calls pG 220 #[P0 (Y ⟨St,0,Z⟩),.agg (mA 7 f e b wa p s q 3 v ms)] w λr w'=>r=.returned (.tuple #[])/\eE w' low St {d with seen:=e,last:=q,b3:=v} vr Mp D/\dM (λg=>g=St) w w':=by
 have j:=a_ w (G (mA 7 f e b wa p s q 3 v ms) 136);have u:=dA (dC.new w (mA 7 f e b wa p s q 3 v ms) 136);have c:=dA (h.later j);have F:=dA j;have t:=h.blk.lt;have x:St≠w.heap.size:=oG;clear h j;go_enter func220,ntmps220;go_upto_region 1 with fail;generalize (w.alloc (G (mA 7 f e b wa p s q 3 v ms) 136))=m at*;have H:=c.blk.cell;have C:=c.blk.free;have y:=u.cell;have L:=c.blk.lt;have M:=u.lt;have i:=c.jb.ne c.blk;go_upto_region 9 with fail;go_region;all_goals go_wp2
 all_goals
  have a:dI St m (((m.setCell ⟨St,7,Z⟩ (I e)).setCell ⟨St,8,Z⟩ (I q)).setCell ⟨St,6,Z⟩ (I v)):=((((dI.kz St m).set2 7 _).set2 8 _).set2 6 _);have n:dC (((m.setCell ⟨St,7,Z⟩ (I e)).setCell ⟨St,8,Z⟩ (I q)).setCell ⟨St,6,Z⟩ (I v)) St #[I d.id,vr,Value.map (Y Mp),I d.b0,I d.b1,I d.b2,I v,I e,I q,P0 (Y ⟨D,0,Z⟩),I d.lines,bool d.wh] 200:=by have K:=((c.blk.set 7 (I e)).set 8 (I q)).set 6 (I v);simpa using K
  have o:=jM c.rcs c.blk.blk dG;refine bodyPost_end (v:=.tuple #[]) (by simp[results,results220,go_sem]) rfl ⟨rfl,⟨⟨n.blk⟩,dQ c.rcs (λg z=>a.block g (λl=>o (by rw[←l];exact z))),c.jb.same (a.block Mp i)⟩,?_⟩;exact(dM.of_below (A:=λ_=>False) F).trans (B:=λg=>g=St) ⟨a.os,a.tape,a.output,by exact Nat.le_of_eq a.size.symm,λk _ E=>a.block k E⟩ (λ_ l=>l.elim) (λ_ _ l=>l)
def lH(w:World)(g:Nat)(cs:Array Value):dI g w (w.setRow g cs):=by
 refine⟨rfl,rfl,rfl,?_,λk a=>?_⟩;·simp[World.setRow]
 ·simp[World.setRow,Array.getElem?_modify,Ne.symm a]
def ND:(Tryz.prog.info? 3).map (·.size)=Y 1:=kG
def KT(low St:Nat)(d:SD)(vr:Value)(Mp D:Nat)(f e b wa p s q bl v:Int)(n t F:Nat)(a:List Int)(hn:1<=a.length/\a.length<=4)(w:World)(h:eE w low St d vr Mp D)(aa:n<w.heap.size)(a1:n≠St)(U:∀i (h:i<a.length),w.cell? ⟨n,t+i,Z⟩=Y (I a[i])):Calls pG 220 #[P0 (Y ⟨St,0,Z⟩),.agg (mA 9 f e b wa p s q bl v (J (Y ⟨n,t,Z⟩) a.length F))] w λr w'=>r=.returned (.tuple #[])/\eE w' low St {d with seen:=e,last:=q,b0:=a.getD 0 d.b0,b1:=a.getD 1 d.b1,b2:=a.getD 2 d.b2,b3:=a.getD 3 d.b3} vr Mp D/\dM (λg=>g=St) w w':=by
 have HZ:=dA U;clear U;have C:=a_ w (G (mA 9 f e b wa p s q bl v (J (Y ⟨n,t,Z⟩) a.length F)) 136);have X:=dA (dC.new w (mA 9 f e b wa p s q bl v (J (Y ⟨n,t,Z⟩) a.length F)) 136);have c:=dA (h.later C);have HB:=dA C;have ad:=h.blk.lt;have R:St≠w.heap.size:=oG;clear h C;go_enter func220,ntmps220;go_upto_region 1 with fail;generalize (w.alloc (G (mA 9 f e b wa p s q bl v (J (Y ⟨n,t,Z⟩) a.length F)) 136))=E at*;have c0:=c.blk.cell 0;have c1:=c.blk.cell 1;have c2:=c.blk.cell 2;have c3:=c.blk.cell 3;have c4:=c.blk.cell 4;have c5:=c.blk.cell 5;have c6:=c.blk.cell 6;have c7:=c.blk.cell 7;have c8:=c.blk.cell 8;have c9:=c.blk.cell 9;have K:=c.blk.cell 10;have c11:=c.blk.cell 11;simp at c0 c1 c2 c3 c4 c5 c6 c7 c8 c9 K c11;have a6:=c.blk.free 0;have ac:=c.blk.free 1;have ab:=c.blk.free 2;have a5:=c.blk.free 3;have a9:=c.blk.free 4;have a8:=c.blk.free 5;have a4:=c.blk.free 6;have a0:=c.blk.free 7;have a3:=c.blk.free 8;have W:=c.blk.free 9;have M:=c.blk.free 10;have H:=c.blk.free 11;obtain⟨m0,m1,m2,m3,m4,m5,m6,m7,m8,m9,Q⟩:=X.c11;have af:=c.blk.lt;have hM:=X.lt;have y:=c.jb.ne c.blk;go_upto_region 12 with fail;have m:Hid (dI St E ((E.setCell ⟨St,7,Z⟩ (I e)).setCell ⟨St,8,Z⟩ (I q))):=(((dI.kz St E).set2 7 _).set2 8 _);have N:Hid (dC ((E.setCell ⟨St,7,Z⟩ (I e)).setCell ⟨St,8,Z⟩ (I q)) St #[I d.id,vr,Value.map (Y Mp),I d.b0,I d.b1,I d.b2,I d.b3,I e,I q,P0 (Y ⟨D,0,Z⟩),I d.lines,bool d.wh] 200):=by have h9:=(c.blk.set 7 (I e)).set 8 (I q);unfold Hid;simpa using h9
 have a7:=dA (X.same (m.block _ (Ne.symm R)));generalize ((E.setCell ⟨St,7,Z⟩ (I e)).setCell ⟨St,8,Z⟩ (I q))=W1 at*;have x:∀j u,(a.map I)[j]?=Y u->W1.drew.cell? ((⟨n,t,Z⟩:Addr).add j)=Y u:=by intro j u L;rw[Go.WideShapes.add_plain];rw[List.getElem?_map]at L;obtain⟨z,U,rfl⟩:=Option.map_eq_some_iff.1 L;obtain⟨hj,rfl⟩:=List.getElem?_eq_some_iff.1 U;exact((m.cell (p:=⟨n,t+j,Z⟩) a1).trans (HB.cell (p:=⟨n,t+j,Z⟩) aa)).trans (HZ.out j hj)
 have ae:∀ty,(Builtin.copy_ #[59,59] ty #[J (Y ⟨St,3,Z⟩) 4 4,J (Y ⟨n,t,Z⟩) a.length F]).run pG W1.drew=.ok (goInt a.length) (W1.drew.setRow St #[I d.id,vr,Value.map (Y Mp),I (a.getD 0 d.b0),I (a.getD 1 d.b1),I (a.getD 2 d.b2),I (a.getD 3 d.b3),I e,I q,P0 (Y ⟨D,0,Z⟩),I d.lines,bool d.wh]):=by intro ty;have h9:=run_copy_row (P:=pG) W1.drew 59 59 ty 3 St 3 4 4 ⟨n,t,Z⟩ a.length F #[I d.id,vr,Value.map (Y Mp),I d.b0,I d.b1,I d.b2,I d.b3,I e,I q,P0 (Y ⟨D,0,Z⟩),I d.lines,bool d.wh] 200 (a.map I) underlying59 ND N.drew.blk (by rw[List.length_map];exact(Nat.min_eq_left hn.2).symm) x (by simp;omega) (by intro u L;simp at L;obtain⟨_,_,rfl⟩:=L;rfl);rcases a with _|⟨z0,_|⟨z1,_|⟨z2,_|⟨z3,_|⟨z4,a⟩⟩⟩⟩⟩<;>first|(simpa using h9)|(simp at hn)|(simp at hn;omega)
 have l:Hid (dI St W1.drew (W1.drew.setRow St #[I d.id,vr,Value.map (Y Mp),I (a.getD 0 d.b0),I (a.getD 1 d.b1),I (a.getD 2 d.b2),I (a.getD 3 d.b3),I e,I q,P0 (Y ⟨D,0,Z⟩),I d.lines,bool d.wh])):=lH _ _ _;have O:Hid (dC (W1.drew.setRow St #[I d.id,vr,Value.map (Y Mp),I (a.getD 0 d.b0),I (a.getD 1 d.b1),I (a.getD 2 d.b2),I (a.getD 3 d.b3),I e,I q,P0 (Y ⟨D,0,Z⟩),I d.lines,bool d.wh]) St #[I d.id,vr,Value.map (Y Mp),I (a.getD 0 d.b0),I (a.getD 1 d.b1),I (a.getD 2 d.b2),I (a.getD 3 d.b3),I e,I q,P0 (Y ⟨D,0,Z⟩),I d.lines,bool d.wh] 200):=⟨setRow_heap W1.drew St _ _ 200 _ N.drew.blk⟩;generalize W1.drew.setRow St #[I d.id,vr,Value.map (Y Mp),I (a.getD 0 d.b0),I (a.getD 1 d.b1),I (a.getD 2 d.b2),I (a.getD 3 d.b3),I e,I q,P0 (Y ⟨D,0,Z⟩),I d.lines,bool d.wh]=W2 at*;clear x c0 c1 c2 c3 c4 c5 c6 c7 c8 c9 K c11 a6 ac ab a5 a9 a8 a4 a0 a3 W M H m0 m1 m2 m3 m4 m5 m6 m7 m8 m9 Q;obtain⟨m0,m1,m2,m3,m4,m5,m6,m7,m8,m9,Q⟩:=a7.c11;go_region;all_goals go_wp2
 all_goals
  have a2:=jM c.rcs c.blk.blk dG;have o:∀g,g≠St->W2.heap[g]?=E.heap[g]?:=λg V=>(l.block g V).trans (m.block g V);refine bodyPost_end (v:=.tuple #[]) (by simp[results,results220,go_sem]) rfl ⟨rfl,⟨⟨O.blk⟩,dQ c.rcs (λg V=>o g (λS=>a2 (by rw[←S];exact V))),c.jb.same (o Mp y)⟩,?_⟩;exact(dM.of_below (A:=λ_=>False) HB).trans (B:=λg=>g=St) ⟨l.os.trans m.os,l.tape.trans m.tape,l.output.trans m.output,by have h8:=l.size;have h7:=m.size;have h6:W1.drew.heap.size=W1.heap.size:=rfl;omega,λk _ hk=>o k hk⟩ (λ_ S=>S.elim) (λ_ _ S=>S)
def NE:(Tryz.prog.info? 5).map (λi=>(i.zero,i.size,i.bytes))=Y (Y (.int .u8 0),1,1):=kG
def eS:List UInt8:=[106,111,117,114,110,97,108]
def uD{fs:List FD}{L:Nat}(h:∀f∈fs,f.d.length<=L)(c b:List UInt8):(∀f∈eO fs c b,f.d.length<=L+b.length)/\(eO fs c b).length<=fs.length+1:=by
 unfold eO;split
 ·refine⟨λf a=>?_,sG⟩;rcases List.mem_append.1 a with a|a;·have:=h f a;omega
  ·simp at a;subst a;simp
 ·rename_i i hi;refine⟨λf a=>?_,sG⟩;rcases List.mem_or_eq_of_mem_set a with a|a;·have:=h f a;omega
  ·subst a;simp only[List.length_append];have e:(fs.getD i jG).d.length<=L:=by
    rw[List.getD_eq_getElem?_getD];cases hx:fs[i]? with
    |none=>simp[jG]
    |some y=>exact h y (List.mem_of_getElem? hx)
   omega
def sN{fs:List FD}{L:Nat}(h:∀f∈fs,f.d.length<=L)(b:List UInt8):(∀f∈fM fs b,f.d.length<=L)/\(fM fs b).length=fs.length:=by
 unfold fM;split;·exact⟨h,rfl⟩
 ·rename_i i hi;refine⟨λf a=>?_,sG⟩;rcases List.mem_or_eq_of_mem_set a with a|a;·exact h f a
  ·subst a;show(fs.getD i jG).d.length<=L;rw[List.getD_eq_getElem?_getD];cases hx:fs[i]? with
   |none=>simp[jG]
   |some y=>exact h y (List.mem_of_getElem? hx)
def eC.then{ty e:TypeId}{low S:Nat}{w w1 w2:World}{v v1:Value}{c:List FD}{l:Int}(k:fU (λb=>b=S∨some b=v.ownBlock) w w1)(j:∀g,v1.ownBlock=Y g->v.ownBlock=Y g∨w.heap.size<=g)(m:eC ty e low w1 S v1 c l w2):eC ty e low w S v c l w2:=by
 obtain⟨n,f,h,i⟩:=m;refine⟨n,f,k.trans h (λb p d=>?_),λg o=>?_⟩
 ·rcases d with d|d;·exact .inl d
  ·rcases j b d.symm with a|a;·exact .inr a.symm
   ·omega
 ·rcases i g o with a|a;·exact j g a
  ·exact .inr (Nat.le_trans k.size a)
def oN{P:Program}{w:World}{t:TypeId}{B i:Nat}{cs vs:Array Value}{ty:TypeId}(a:dC w B cs ty)(e:(P.info? t).map (·.size)=Y vs.size)(d:i+vs.size<=cs.size)(c:cs.toList.take i++vs.toList++cs.toList.drop (i+vs.size)=cs.toList)(g:∀v∈vs.toList,v.oneCell'=true):(Instr.storeAt t (P0 (Y ⟨B,i,Z⟩)) (.agg vs)).run P w=.ok () w:=by
 have b:=run_storeCells_at P B i ty vs.toList 0 cs w a.blk (by simpa using d) g;simp only[Nat.add_zero,Array.length_toList]at b;rw[c,Array.toArray_toList,setRow_self w B cs ty (0,0) a.blk]at b;cases hq:P.info? t with
 |none=>simp[hq]at e
 |some j=>
  have f:j.size=vs.size:=by simpa[hq] using e
  simp[Instr.storeAt,Instr.sureAddr,storeVar,sizeOf,typeInfo,hq,f,Value.cells,b]
def oM{P:Program}{w:World}{ops:Array Oper}{b:List Oper}{o:Oper}{a:Act}{Q:Exit->Act->World->Prop}(f:o.guard=none)(t:TypeId)(x y:Operand)(d:o.op=Op.store t x y)(e vs:Value)(g:a.eval x=e)(hy:a.eval y=vs)(c:(Instr.storeAt t e vs).run P w=.ok () w)(h:wpList P ops Q b (a.put o.dst (.tuple #[])) w):wpList P ops Q (o::b) a w:=by refine wpList_plain f λK i=>?_;unfold Oper.wp;simp[execOp,d,g,hy,c,Result.andThen];exact i _ _ h
def sY:(Tryz.prog.info? 188).map (·.size)=Y 19:=kG
def OX:(Tryz.prog.info? 190).map (·.size)=Y 13:=kG
end
section
open Go.RowKit Go.Maps Go.Sort Go.Shelf
def pU(v:Value):Int:=
 match v with
 |.agg a=>intOf (a.getD 0 undef)
 |_=>0
def pY(es:List MapEntry)(b:Nat):Int:=pU (((es.find? (·.born==b)).map (·.key)).getD undef)
def AM{es:List MapEntry}(b:(es.map (·.born)).Nodup){x:MapEntry}(a:x∈es):pY es x.born=pU x.key:=by unfold pY;rw[find_born x es b a];rfl
def CH{es:List MapEntry}{l:List (Int×PV)}(h:es.map (λe=>(e.key,e.val))=l.map (λx=>(gV x.1,iG x.2))):es.map (λx=>pU x.key)=l.map (·.1)/\∀x∈es,x.key=gV (pU x.key):=by
 have b:es.map (λe=>e.key)=l.map (λx=>gV x.1):=by have:=congrArg (List.map Prod.fst) h;simpa[List.map_map,Function.comp_def] using this
 refine⟨?_,λx c=>?_⟩;·have:=congrArg (List.map pU) b;simpa[List.map_map,Function.comp_def,pU,gV,intOf] using this
 ·have a:x.key∈es.map (λe=>e.key):=List.mem_map.2 ⟨x,c,rfl⟩;rw[b]at a;obtain⟨y,_,hy⟩:=List.mem_map.1 a;rw[←hy];rfl
def I6{es:List MapEntry}{l:List (Int×PV)}(h:es.map (λe=>(e.key,e.val))=l.map (λx=>(gV x.1,iG x.2)))(d:(es.map (·.born)).Nodup){seen:List Nat}(k:seen.Nodup)(j:∀b∈seen,b∈es.map (·.born))(m:∀x∈es,x.born∈seen):(seen.map (pY es)).Perm (l.map (·.1)):=by
 have f:seen.Perm (es.map (·.born)):=(List.perm_ext_iff_of_nodup k d).2 (λa=>⟨j a,λi=>by obtain⟨x,c,rfl⟩:=List.mem_map.1 i;exact m x c⟩);have g:(es.map (·.born)).map (pY es)=l.map (·.1):=by rw[←(CH h).1,List.map_map];refine List.map_congr_left (λx c=>?_);exact AM d c
 rw[←g];exact f.map _
structure pC(w:World)(B r:Nat)(es:Array MapEntry)(clk:Nat)(seen:Array Nat):Prop where
 mp:w.heap[B]?=Y (.map es clk)
 it:w.heap[r]?=Y (.mapIter (Y B) clk seen clk)
 nd:seen.toList.Nodup
 inn:∀b∈seen.toList,b∈es.toList.map (·.born)
def pC.of_walks{w w':World}{B r:Nat}{es:Array MapEntry}{a:Nat}{seen:Array Nat}(h:pC w B r es a seen)(b:KeepsWalks w w'):pC w' B r es a seen:=⟨b.same B _ h.mp rfl,b.same r _ h.it rfl,h.nd,h.inn⟩
def rU:∀(l m:List Nat),l.Nodup->(∀x∈l,x∈m)->l.length<=m.length
 | [],m,_,_=>Nat.zero_le _
 |a::l,m,h,hs=>by have b:=hs a sG;have c:=List.nodup_cons.1 h;have f:=rU l (m.erase a) c.2 (λx d=>(List.mem_erase_of_ne (by intro e;subst e;exact c.1 d)).2 (hs x (by simp[d])));have i:=List.length_erase_of_mem b;have g:0<m.length:=List.length_pos_of_mem b;simp;omega
def MC{es:Array MapEntry}{seen:Array Nat}(a:seen.toList.Nodup)(c:∀b∈seen.toList,b∈es.toList.map (·.born)):seen.size<=es.size:=by have:=rU _ _ a c;simpa using this
def pC.next{w:World}{B r:Nat}{es:Array MapEntry}{c:Nat}{seen:Array Nat}(h:pC w B r es c seen)(hs:pB (es.toList.map (·.born)) c):((leftOf es seen).size=0/\(∀x∈es.toList,x.born∈seen.toList)/\∀ty,(Instr.next (P0 (Y ⟨r,0,Z⟩)) false ty).run pG w=.ok (.tuple #[.bool false]) w)∨ ∃e∈es.toList,∃w':World,pC w' B r es c (seen.push e.born)/\(leftOf es (seen.push e.born)).size<(leftOf es seen).size/\w.grownBy w' (Y r)/\w'.heap.size=w.heap.size/\seen.size<es.size/\(∀ty,(Instr.next (P0 (Y ⟨r,0,Z⟩)) false ty).run pG w=.ok (.tuple #[.bool true,e.key,e.val]) w')/\(Instr.entry (P0 (Y ⟨r,0,Z⟩))).run pG w'=.ok (.tuple #[e.key,e.val]) w':=by
 have t:r≠B:=by intro e;have:=h.it;rw[e,h.mp]at this;cases this
 have m:∀x∈es.toList,x.born<c:=λx y=>hs.1 _ (List.mem_map.2 ⟨x,y,rfl⟩);rcases run_next_at (P:=pG) w 0 r B c c seen es c h.it h.mp m r_ with⟨D,f⟩|⟨e,E,w1,g,f⟩;·exact .inl ⟨D,λx y=>by have:=all_seen es seen D x y;simpa using this,λty=>f⟩
 ·obtain⟨j,z⟩:=mem_left E;have v:w1.heap[r]?=Y (.mapIter (Y B) c seen c):=by rcases g with rfl|rfl<;>exact h.it
  have C:w1.heap[B]?=Y (.map es c):=by rcases g with rfl|rfl<;>exact h.mp
  have d:=MapKept.heap_set (o':=.mapIter (Y B) c (seen.push e.born) c) v;have l:e.born∉seen.toList:=by simpa using z
  have p:(seen.push e.born).toList.Nodup:=by rw[Array.toList_push,List.nodup_append];refine⟨h.nd,sG,λa F b k=>?_⟩;simp at k;intro u;subst u;subst k;exact l F
  have o:∀b∈(seen.push e.born).toList,b∈es.toList.map (·.born):=by
   intro b k;rw[Array.toList_push]at k;rcases List.mem_append.1 k with s|s;·exact h.inn b s
   ·simp at s;subst s;exact List.mem_map.2 ⟨e,j,rfl⟩
  have q:=(d.2 B (λA=>t A.symm)).trans C;have n:=MC p o;refine .inr ⟨e,j,_,⟨q,d.1,p,o⟩,left_shrinks es seen e E,?_,?_,by simp at n;omega,λty=>f,run_entry_at _ r B c seen es c e d.1 q j hs.2⟩;·rcases g with rfl|rfl<;>exact⟨rfl,rfl,rfl,by simp[ChangeMaps.setBlock],λi _ hi=>d.2 i (λA=>hi (by rw[A]))⟩
  ·rcases g with rfl|rfl<;>simp[ChangeMaps.setBlock]
set_option maxRecDepth 100000 in
def KU(F:Fence)(n:Nat)(R:F.fn 268)(N:F.round=none)(hn:1<=n)(l Bm b:Nat)(vs:List (Int×PV))(f:List Int->World->Prop)(hY:∀pre x W,f pre W->pre.length<vs.length->YieldAt F (n - 1) pG l #[.agg #[I x]] W λe C=>e=.returned (.bool true)/\f (pre++[x]) C/\KeepsWalks W C)(W:World)(K:AbidesFrom W.heap.size f)(hm:W.cell? ⟨Bm,0,Z⟩=Y (.map (Y b)))(w:VM W b vs)(h0:f [] W):CallsIn F n pG 268 #[.func (.yield l) #[] #[],P0 (Y ⟨Bm,0,Z⟩)] W λe C=>(∃v,e=.returned v)/\∃ks:List Int,ks.Perm (vs.map (·.1))/\f ks C:=by
 obtain⟨es,a,k,i,h⟩:=w.obj;have U:=CH i;have a2:es.size=vs.length:=by have:=congrArg List.length i;simpa using this
 have a0:b<W.heap.size:=(Array.getElem?_eq_some_iff.1 k).1;have a6:=run_range_map W 193 321 284 b es a underlying193 k;have D:pC (W.alloc (.mapIter (Y b) a #[] a)) b W.heap.size es a #[]:=⟨(heap_alloc_old W _ a0).trans k,heap_alloc_new _ _,sG,sG⟩;have E:f [] (W.alloc (.mapIter (Y b) a #[] a)):=K [] W _ none h0 (World.grownBy_alloc W _ none) (λr e=>by cases e);refine callsIn_of_wp func268 rfl R ?_ N;simp only[ntmps268,List.size_toArray,List.length_cons,List.length_nil,Nat.reduceAdd,Nat.reduceSub,Array.replicate_succ,Array.replicate_zero,List.push_toArray,List.append_toArray,List.nil_append,List.cons_append];gi_wp2;generalize t:W.alloc (.mapIter (Y b) a #[] a)=W0 at*;have O:W0.heap.size=W.heap.size+1:=by rw[←t];simp
 clear t a6;gi_loopw [3] (λ_ wr=>∃seen,pC wr b W.heap.size es a seen/\W.heap.size<wr.heap.size/\f (seen.toList.map (pY es.toList)) wr)
  (λ_ wr=>wr.rangeLeft b W.heap.size)
 case atStart=>exact⟨#[],D,oG,E⟩
 case round=>
  obtain⟨seen,c,aa,q⟩:=hrel;rcases c.next h with⟨hz,s,j⟩|⟨B,y,w2,m,a7,a4,M,H,j,g⟩;·gi_wp2;go_end0;exact⟨⟨_,rfl⟩,_,I6 i h.2 c.nd c.inn s,q⟩
  ·have hk:=U.2 B y;have p:=AM h.2 y;have L:=dA p;rw[hk]at j g;generalize pU B.key=x at*;have S:∃o:Obj,wr.heap[W.heap.size]?=Y o/\o.isWalk=true:=⟨_,c.it,rfl⟩;have Q:f (seen.toList.map (pY es.toList)) w2:=K _ wr w2 (Y W.heap.size) q a4 (λr e=>by cases e;exact⟨Nat.le_refl _,S⟩);unfold gV at j g;have a3:w2.grownBy (w2.alloc (G #[Value.int IntKind.i64 x] 321)) none:=World.grownBy_alloc w2 _ none;have a5:f (seen.toList.map (pY es.toList)) (w2.alloc (G #[Value.int IntKind.i64 x] 321)):=K _ w2 _ none Q a3 (λr e=>by cases e);have u:KeepsWalks w2 (w2.alloc (G #[Value.int IntKind.i64 x] 321)):=KeepsWalks.alloc _ _;obtain⟨fn,a9,A,a8,hy,hR⟩:=hY _ x _ a5 (by simp;omega);have X:W.heap.size<w2.heap.size:=oG;have V:(leftOf es (seen.push B.born)).size<wr.rangeLeft b W.heap.size:=by simp only[World.rangeLeft,c.mp,c.it];exact a7
   clear M O a2 H p;gi_wp2;refine hR.mono ?_;rintro e W4 ⟨rfl,a1,z⟩;gi_wp2;have d:=(m.of_walks u).of_walks z;go_roundw;case rel=>exact⟨seen.push B.born,d,Nat.lt_of_lt_of_le X (Nat.le_trans u.size z.size),by rw[Array.toList_push,List.map_append];simp only[List.map_cons,List.map_nil];rw[L.out];exact a1⟩
   case measure=>simp only[World.rangeLeft,d.mp,d.it];exact V
def vY:Code:=(Code.region 2 #[{dst:=Y 5,op:=Op.alloc 321,type:=0,pos:= "iter.go:51",after:=#[],guard:=none},{dst:=none,op:=Op.store 321 (Operand.tmp 5) (Operand.tmp 7),type:=0,pos:= "iter.go:51",after:=#[{on:=0,ground:=Ground.data},{on:=0,ground:=Ground.phase}],guard:=none}] false)
def wR:Code:=(Code.block 1 (Code.region 3 #[{dst:=Y 8,op:=Op.load 344 (Operand.tmp 2),type:=344,pos:= "iter.go:52",after:=#[],guard:=none},{dst:=Y 9,op:=Op.load 321 (Operand.tmp 5),type:=321,pos:= "iter.go:52",after:=#[],guard:=none},{dst:=Y 10,op:=Op.buildSlice 344 1 #[(0,Operand.tmp 9)],type:=344,pos:= "iter.go:52",after:=#[{on:=1,ground:=Ground.data}],guard:=none},{dst:=Y 11,op:=Op.call {callee:=Callee.builtin Builtin.append,args:=#[Operand.tmp 8,Operand.tmp 10],argTypes:=#[344,344]},type:=344,pos:= "iter.go:52",after:=#[{on:=0,ground:=Ground.data},{on:=2,ground:=Ground.data}],guard:=none},{dst:=none,op:=Op.store 344 (Operand.tmp 2) (Operand.tmp 11),type:=0,pos:= "iter.go:52",after:=#[{on:=3,ground:=Ground.data},{on:=3,ground:=Ground.chain},{on:=0,ground:=Ground.phase},{on:=1,ground:=Ground.phase},{on:=2,ground:=Ground.phase},{on:=3,ground:=Ground.phase}],guard:=none}] false))
def nF(fn:FuncId)(sv:Value)(Bs D:Nat)(st:LoopState)(pend:Option Code):Loop:=
  {state:=st,pending:=pend,fn,tmps:=#[J Z 0 0,sv,P0 (Y ⟨Bs,0,Z⟩),undef,J Z 0 0,undef,sv,undef,undef,undef,undef,undef,undef],params:=#[7],assign:=vY,body:=wR,defers:=D}
def kV(e:Int):Value:=I e
structure sZ(w0:World)(fn:FuncId)(sv:Value)(Bs l D:Nat)(ss:List Int)(W:World):Prop where
  box:∃v,W.heap[Bs]?=Y (.cells #[v] 344 (0,0))/\W.ownsRow w0.heap.size 321 1 v ss.length (ss.map kV)
  L:W.heap[l]?=Y (.loop (nF fn sv Bs D .ready none))
  K:W.heap[D]?=Y (.deferred (some []))
  below:Below w0.heap.size w0 W
def IA(w0:World)(f:FuncId)(g:Value)(j l D B:Nat)(m:w0.heap.size<=B):AbidesFrom B (sZ w0 f g j l D):=λs W n row h c b=>by
  have a:∀r,row=Y r->∃o:Obj,W.heap[r]?=Y o/\o.isWalk=true:=λr e=>(b r e).2;obtain⟨v,d,i⟩:=h.box
  exact⟨⟨v,(grownBy_keeps c a d rfl).trans d,ownsRow_abides_a i c a⟩,(grownBy_keeps c a h.L rfl).trans h.L,(grownBy_keeps c a h.K rfl).trans h.K,
    h.below.grown c h.below.size (λk e=>Nat.le_trans m (b k e).1)⟩
def MD:(Tryz.prog.info? 321).map (λi=>(i.zero,i.size,i.bytes))=Y (Y (.agg #[I 0]),1,8):=kG
set_option maxRecDepth 100000 in
def KV(F:Fence)(m:Nat)(w0:World)(H:FuncId)(al:F.fn H)(M:Value)(d l D:Nat)(S:d≠l)(a8:D≠l)(ay:D≠d)(az:w0.heap.size<=d)(a1:w0.heap.size<=l)(N:Nat)(hN:N<=maxLen)(aL:N*8<=140737488355328)(u:List Int)(x:Int)(W:World)(h:sZ w0 H M d l D u W)(aC:u.length<N):YieldAt F m pG l #[.agg #[I x]] W λe W'=>e=.returned (.bool true)/\sZ w0 H M d l D (u++[x]) W'/\KeepsWalks W W':=by
 obtain⟨i0,hi,ar,aw,ag⟩:=info_parts MD;obtain⟨v,hv,E⟩:=h.box;refine⟨H,#[J Z 0 0,M,P0 (Y ⟨d,0,Z⟩),undef,J Z 0 0,undef,M,.agg #[I x],undef,undef,undef,undef,undef],vY,wR,by simpa[nF] using run_yield (P:=pG) (args:=#[.agg #[I x]]) h.L rfl,roundIn_of_wpIn al ?_⟩;have hl:l<W.heap.size:=(Array.getElem?_eq_some_iff.1 h.L).1;have a2:d<W.heap.size:=(Array.getElem?_eq_some_iff.1 hv).1;have ai:D<W.heap.size:=(Array.getElem?_eq_some_iff.1 h.K).1;obtain⟨W1,b⟩:∃W1,W.alloc (G #[Value.int IntKind.i64 x] 321)=W1:=⟨_,rfl⟩;have aH:W.heap.size<W1.heap.size:=by rw[←b];simp
 have U:W1.heap[l]?=Y (.loop (nF H M d D .ready none)):=by rw[←b];exact(heap_alloc_old _ _ hl).trans h.L
 have aq:W1.heap[d]?=Y (.cells #[v] 344 (0,0)):=by rw[←b];exact(heap_alloc_old _ _ a2).trans hv
 have am:W1.heap[D]?=Y (.deferred (some [])):=by rw[←b];exact(heap_alloc_old _ _ ai).trans h.K
 have p:W1.ownsRow w0.heap.size 321 1 v u.length (u.map kV):=by rw[←b];exact E.alloc _
 have ab:Below w0.heap.size w0 W1:=by rw[←b];exact h.below.alloc h.below.size _
 have ap:KeepsWalks W W1:=by rw[←b];exact KeepsWalks.alloc _ _
 have a6:W1.heap[W.heap.size]?=Y (.cells #[I x] 321 (0,0)):=by rw[←b];exact heap_alloc_new _ _
 have ak:l<W1.heap.size:=oG;have a7:=run_beginRound (P:=pG) U rfl;obtain⟨i,g⟩:∃i,W1.putObj l (.loop {nF H M d D .ready none with state:=.busy})=i:=⟨_,rfl⟩;rw[g]at a7;have C:W1.grownBy i (Y l):=by rw[←g];exact grownBy_putObj_a _ _ _
 have ae:KeepsWalks W i:=by rw[←g];exact ap.trans (KeepsWalks.putObj _ U rfl)
 have V:i.heap[d]?=Y (.cells #[v] 344 (0,0)):=by rw[←g];exact(World.putObj_heap_other S).trans aq
 have a5:i.heap[D]?=Y (.deferred (some [])):=by rw[←g];exact(World.putObj_heap_other a8).trans am
 have a9:i.heap[l]?=Y (.loop {nF H M d D .ready none with state:=.busy}):=by rw[←g];exact World.putObj_heap_same ak
 have f:=p.kept C (ownsRow_ne_a p U (λq e=>by cases e));have B:=ab.grown C ab.size (λk e=>by cases e;exact a1);have ao:W.heap.size≠l:=oG;have aG:i.cell? ⟨W.heap.size,0,Z⟩=Y (I x):=by
  have:i.heap[W.heap.size]?=Y (.cells #[I x] 321 (0,0)):=by rw[←g];exact(World.putObj_heap_other ao).trans a6
  exact(cell_of_box_a this).1
 obtain⟨aM,aN⟩:=cell_of_box_a V;have n:∀{j:Nat} {o:Obj},i.heap[j]?=Y o->(∀q,o≠.cells q 321 (0,0))->some j≠v.ownBlock:=λhj an=>by
  rcases ownsRow_ne_a f hj an with e|e;·rw[e];simp
  ·exact λe'=>e e'.symm
 have aB:=B.size;have aA:=C.size;have a3:d<i.heap.size:=oG;have av:l<i.heap.size:=oG;have R:D<i.heap.size:=oG;have aE:W.heap.size<i.heap.size:=oG;clear g E hv p a6 C;unfold vY;gi_wp2_with (rw[Oper.semAt_eq _ _ _ (λc h=>by cases h)];go_simp;try go_bits);clear b a7;unfold wR;gi_wp2_with (first
  | (gi_at_builtin;refine wpListIn_append_own _ rfl _ _ 344 rfl w0.heap.size 321 i0 (.agg #[I 0]) 1 8 underlying344 hi ar aw ag rfl dG _ _ _ rfl (f.alloc _) ⟨i.heap.size,0,Z⟩ 1 1 [kV x] rfl rfl (cell_one_new _ _ _) (by simp[Value.oneCell',kV]) oG oG (by simp;omega) ?_;intro v' w3 r a4 af
     have Q:=(a4.block d (by simp;omega) (n V (λq e=>by cases e))).trans ((Below.heap_alloc _ _ d a3).trans V);obtain⟨aP,aK⟩:=cell_of_box_a Q
     obtain⟨g',a,s,rfl,ad,aD,aI,aF,aO,aJ⟩:∃g' a s,v'=J (Y ⟨g',0,Z⟩) (u.length+1) a/\w0.heap.size<=g'/\w3.heap[g']?=Y (.cells s 321 (0,0))/\u.length+1<=a/\a<=maxLen/\s.size=a*1/\s.toList.take ((u.length+1)*1)=u.map kV++[kV x]:=by
       rcases r.2 with⟨_,h0⟩|h'
       · exact absurd h0 oG
       · exact h'
     go_frame)
  | (rw[Oper.semAt_eq _ _ _ (λc h=>by cases h)];go_simp;try go_bits))
 have t:(i.alloc (.cells #[kV x] 321)).grownBy w3 v.ownBlock:=a4;have a0:=(t.block l (by simp;omega) (n a9 (λq e=>by cases e))).trans ((Below.heap_alloc _ _ l av).trans a9);have X:=(t.block D (by simp;omega) (n a5 (λq e=>by cases e))).trans ((Below.heap_alloc _ _ D R).trans a5);obtain⟨O,w⟩:∃O,w3.setCell ⟨d,0,Z⟩ (J (Y ⟨g',0,Z⟩) (u.length+1) a)=O:=⟨_,rfl⟩;rw[w];have A:w3.grownBy O (Y d):=by rw[←w];exact grownBy_setCell0_a _ _ _
 have au:O.heap[d]?=Y (.cells #[J (Y ⟨g',0,Z⟩) (u.length+1) a] 344 (0,0)):=by rw[←w];exact heap_setCell_box_a _ Q
 have z:=(A.block l (Array.getElem?_eq_some_iff.1 a0).1 (λe=>S (by cases e;rfl))).trans a0;have aj:=(A.block D (Array.getElem?_eq_some_iff.1 X).1 (λe=>ay (by cases e;rfl))).trans X;have y:=r.kept A (ownsRow_ne_a r Q (λq e=>by cases e));have ah:l<O.heap.size:=(Array.getElem?_eq_some_iff.1 z).1;have ac:=(B.alloc B.size _).grown t (by have:=B.size;simp;omega) (λk e=>(f.lt k e).1);have aa:=ac.grown A ac.size (λk e=>by cases e;exact az);have ax:KeepsWalks W O:=((ae.trans (KeepsWalks.alloc _ _)).trans (KeepsWalks.of_grownBy t (ownsRow_not_walk_a (f.alloc _)))).trans (by rw[←w];exact KeepsWalks.setCell _ _ _);clear w;refine⟨_,_,run_endRound none z,rfl,⟨⟨_,(World.putObj_heap_other S).trans au,?_⟩,World.putObj_heap_same ah,(World.putObj_heap_other a8).trans aj,aa.grown (grownBy_putObj_a _ _ _) aa.size (λk e=>by cases e;exact a1)⟩,ax.trans (KeepsWalks.putObj _ z rfl)⟩;have:=y.kept (grownBy_putObj_a O l (.loop {{nF H M d D .ready none with state:=.busy} with state:=if(none:Option Code).isNone then .ready else .done,pending:=none})) (ownsRow_ne_a y z (λq e=>by cases e));simpa using this
set_option maxRecDepth 100000 in
def FH(d b:Nat)(vs:List (Int×PV))(hN:vs.length<=maxLen)(A:vs.length*8<=140737488355328)(w:World)(M:d<w.heap.size)(hm:w.cell? ⟨d,0,Z⟩=Y (.map (Y b)))(r:VM w b vs):CallsIn Fence.wide 5 pG 271 #[J Z 0 0,Value.func (Fn.func 268) #[] #[Value.pointer (Y ⟨d,0,Z⟩)]] w λe w'=>∃(v:Value) (z:List Int),e=.returned v/\z.Perm (vs.map (·.1))/\w'.ownsRow w.heap.size 321 1 v z.length (z.map kV)/\Below w.heap.size w w':=by
 have V:=enters_of func268 kG rfl;refine callsIn_of_wp_marks func271 rfl trivial ?_ rfl;simp only[ntmps271,List.size_toArray,List.length_cons,List.length_nil,Nat.reduceAdd,Nat.reduceSub,Array.replicate_succ,Array.replicate_zero,List.push_toArray,List.append_toArray,List.nil_append,List.cons_append];gi_wp2;refine wpIn_rangeFunc ?_;intro q N;obtain⟨a,h⟩:∃a,w.alloc (.cells #[J Z 0 0] 344)=a:=⟨_,rfl⟩;have B:a.heap.size=w.heap.size+1:=by rw[←h];simp
 have F:a.heap[w.heap.size]?=Y (.cells #[J Z 0 0] 344 (0,0)):=by rw[←h];exact World.alloc_heap_new w _
 have m:Below w.heap.size w a:=by rw[←h];exact(Below.refl _ w).alloc r_ _
 rw[h];obtain⟨W1,c⟩:∃W1,(a.alloc (.deferred (some []))).alloc (.loop (nF q (Value.func (Fn.func 268) #[] #[Value.pointer (Y ⟨d,0,Z⟩)]) w.heap.size a.heap.size .ready none))=W1:=⟨_,rfl⟩;have u:∀k,k<a.heap.size->W1.heap[k]?=a.heap[k]?:=λk S=>by rw[←c];exact(Below.heap_alloc _ _ k (by simp;omega)).trans (Below.heap_alloc _ _ k S)
 have i:Below w.heap.size w W1:=by rw[←c];exact(m.alloc m.size _).alloc (by have:=m.size;simp;omega) _
 have X:W1.heap.size=a.heap.size+2:=by rw[←c];simp
 have Q:sZ w q (Value.func (Fn.func 268) #[] #[Value.pointer (Y ⟨d,0,Z⟩)]) w.heap.size (a.heap.size+1) a.heap.size [] W1:=
  ⟨⟨_,(u w.heap.size oG).trans F,⟨rfl,.inl ⟨rfl,rfl⟩⟩⟩,
   by rw[←c];have:=World.alloc_heap_new (a.alloc (.deferred (some []))) (.loop (nF q (Value.func (Fn.func 268) #[] #[Value.pointer (Y ⟨d,0,Z⟩)]) w.heap.size a.heap.size .ready none));rwa[World.size_alloc]at this,
   by rw[←c];exact(Below.heap_alloc _ _ _ sG).trans (World.alloc_heap_new a _),i⟩
 have C:=(i.cell (p:=⟨d,0,Z⟩) M).trans hm;have H:=r.later i;refine⟨a.heap.size+1,[{target:=.collected a.heap.size,args:=#[]}],W1,{target:=.fn (.func 268) #[P0 (Y ⟨d,0,Z⟩)],args:=#[.func (.yield (a.heap.size+1)) #[] #[]]},W1,268,
  #[.func (.yield (a.heap.size+1)) #[] #[]]++#[P0 (Y ⟨d,0,Z⟩)],W1,?_,?_,?_,?_,λ_=>oG,?_⟩
 ·rw[←c];exact run_enterLoop_outer _ _ _ _ _
 ·simp[resolve,go_sem]
 ·intro f' U;trivial
 ·simp[invoke,go_sem,V]
 ·refine(KU Fence.wide 4 trivial rfl oG (a.heap.size+1) d b vs (sZ w q (Value.func (Fn.func 268) #[] #[Value.pointer (Y ⟨d,0,Z⟩)]) w.heap.size (a.heap.size+1) a.heap.size) (λpre x W hJ hl=>KV Fence.wide (4 - 1) w q N _ w.heap.size (a.heap.size+1) a.heap.size oG oG oG r_ oG vs.length hN A pre x W hJ hl) W1 (IA _ _ _ _ _ _ _ i.size) C H Q).mono ?_;rintro e W2 ⟨⟨v0,rfl⟩,O,hS,n⟩;obtain⟨v,hv,l⟩:=n.box;have j:=run_endLoop (P:=pG) n.L (by simp[nF]);obtain⟨o,g⟩:∃o,W2.putObj (a.heap.size+1) (.loop {nF q (Value.func (Fn.func 268) #[] #[Value.pointer (Y ⟨d,0,Z⟩)]) w.heap.size a.heap.size .ready none with state:=.exhausted})=o:=⟨_,rfl⟩;rw[g]at j;have t:W2.grownBy o (Y (a.heap.size+1)):=by rw[←g];exact grownBy_putObj_a _ _ _
  have E:o.heap[w.heap.size]?=Y (.cells #[v] 344 (0,0)):=by rw[←g];exact(World.putObj_heap_other oG).trans hv
  have s:o.heap[a.heap.size]?=Y (.deferred (some [])):=by rw[←g];exact(World.putObj_heap_other oG).trans n.K
  have f:=l.kept t (ownsRow_ne_a l n.L (λD e=>by cases e));have y:=n.below.grown t n.below.size (λk e=>by cases e;omega);obtain⟨a0,R⟩:=cell_of_box_a E;clear g;refine⟨none,o,j,?_⟩;gi_wp2;rw[←B];refine⟨sG,.inl ⟨_,_,rfl,run_takeDeferred s,?_⟩⟩;exact⟨_,results_tmp rfl _ _ _,v,O,rfl,hS,f.kept (grownBy_putObj_a _ _ _) (ownsRow_ne_a f s (λD e=>by cases e)),y.grown (grownBy_putObj_a _ _ _) y.size (λk e=>by cases e;omega)⟩
def FQ(f b:Nat)(vs:List (Int×PV))(m:vs.length<=maxLen)(g:vs.length*8<=140737488355328)(w:World)(h:f<w.heap.size)(i:w.cell? ⟨f,0,Z⟩=Y (.map (Y b)))(a:VM w b vs):Calls pG 266 #[Value.func (Fn.func 268) #[] #[Value.pointer (Y ⟨f,0,Z⟩)]] w λe w'=>∃(v:Value) (c:List Int),e=.returned v/\c.Perm (vs.map (·.1))/\w'.ownsRow w.heap.size 321 1 v c.length (c.map kV)/\Below w.heap.size w w':=by have d:=(callsIn_wide (n:=5)).1 (FH f b vs m g w h i a);clear i a;go_enter func266,ntmps266;go_wp2_with(go_at_call 271;refine d.mono ?_;rintro e w' ⟨v,c,rfl,l,j,k⟩);go_ret;exact⟨v,c,rfl,l,j,k⟩
end
section
open Go.RowKit
open Value (bool)
def NF:(Tryz.prog.info? 3).map (λi=>(i.zero,i.size,i.bytes))=Y (Y (I 0),1,8):=kG
def CJ{t e:TypeId}(h:Tryz.prog.underlying t=Y (.slice e))(a:Option Addr)(n c:Nat)(w:World):(binOp .eql t (J a n c) (J Z 0 0)).run pG w=.ok (.bool a.isNone) w:=by simp only[binOp];simp[run_equal_slice_nil w t e a n c h]
def IB(S:Nat)(i d n h:Int)(w:World)(z:w.cell? ⟨S,3,Z⟩=Y (I i))(B:w.cell? ⟨S,4,Z⟩=Y (I d))(y:w.cell? ⟨S,5,Z⟩=Y (I n))(D:w.cell? ⟨S,6,Z⟩=Y (I h))(hS:S<w.heap.size):Calls pG 263 #[J (Y ⟨S,3,Z⟩) 4 4] w λr w'=>∃v,r=.returned v/\fI w' w.heap.size v [i,d,n,h]/\Below w.heap.size w w':=by
 obtain⟨C,s,e,k,m⟩:=info_parts NF;have f:=CJ underlying59 (Y ⟨S,3,Z⟩) 4 4 w;simp only[Option.isNone_some]at f;go_enter func263,ntmps263;go_wp2_with(at_builtin;go_loud (refine wpList_append_own _ rfl _ _ 59 rfl w.heap.size 3 C (I 0) 1 8 underlying59 s e k m rfl dG _ 0 [] rfl ?c0 ⟨S,3,Z⟩ 4 4 [I i,I d,I n,I h] rfl rfl ?c1 ?c2 ?c3 ?c4 ?c5 ?_));case c0=>exact World.ownsRow_lit w #[] 0 r_ xG rfl
 case c1=>
  intro j u a;have F:j<4:=by have:=(List.getElem?_eq_some_iff.1 a).1;simpa using this
  have x:(⟨S,3,Z⟩:Addr).block<w.heap.size:=hS;have b:∀o,(w.alloc (G #[] 3)).cell? ⟨S,o,Z⟩=w.cell? ⟨S,o,Z⟩:=λo=>(a_ w _).cell (p:=⟨S,o,Z⟩) hS;rcases j with _|_|_|_|j;·simp at a;subst a;exact(b _).trans z
  ·simp at a;subst a;exact(b _).trans B
  ·simp at a;subst a;exact(b _).trans y
  ·simp at a;subst a;exact(b _).trans D
  ·omega
 case c2=>intro u a;simp at a;rcases a with rfl|rfl|rfl|rfl<;>rfl
 case c3=>unfold maxLen;omega
 case c4=>omega
 case c5=>simp
 intro v' w2 c l t;have q:=(a_ w (G #[] 3)).grown l sG (λg A=>by simp[Value.ownBlock]at A;omega);obtain⟨E,vc,rfl⟩:=dZ c;go_wp2;go_ret;exact⟨_,rfl,c,q⟩
def IC(rs:List eH)(vr:Value)(w:World)(l:eL w vr rs.length (rs.flatMap eH.cells))(e:0<rs.length)(o:rs.length<=100000000):Calls pG 152 #[vr] w λr w'=>∃v,r=.returned v/\w'.ownsRow w.heap.size 66 3 v rs.length (rs.flatMap eH.cells)/\Below w.heap.size w w':=by
 obtain⟨n,j,f,k,c⟩:=info_parts xL;obtain⟨g,a,rfl,m,q⟩:=l.at e;have h:=CJ underlying23 (Y ⟨g,0,Z⟩) rs.length a w;simp only[Option.isNone_some]at h;go_enter func152,ntmps152;go_wp2_with(at_builtin;go_loud (refine vE rfl _ _ 23 rfl w.heap.size 66 n (.agg #[I 0,I 0,I 0]) 3 24 underlying23 j f k c rfl dG _ 0 [] rfl ?c0 (J (Y ⟨g,0,Z⟩) rs.length a) rs.length (rs.flatMap eH.cells) rfl (l.later (a_ w _)) (vU eH.cells 3 tF rs) L3 ?c3 ?c4 ?c5 ?_));case c0=>exact World.ownsRow_lit w #[] 0 r_ xG rfl
 case c3=>unfold maxLen;omega
 case c4=>omega
 case c5=>simp
 intro v' w2 b d;have i:=(a_ w (G #[] 66)).grown d sG (λg m=>by simp[Value.ownBlock]at m;omega);obtain⟨p,vc,rfl⟩:=dZ b;go_wp2;go_ret;exact⟨_,rfl,b,i⟩
def fA:Prop:=∀(Bm b:Nat) (vs:List (Int×PV)) (w:World),vs.length<=100000000->Bm<w.heap.size->w.cell? ⟨Bm,0,Z⟩=Y (.map (Y b))->VM w b vs->
  Calls pG 260 #[Value.func (Fn.func 268) #[] #[P0 (Y ⟨Bm,0,Z⟩)],Value.func (Fn.func 262) #[] #[]] w λe w'=>∃(v:Value) (ks:List Int),e=.returned v/\ks.Perm (vs.map (·.1))/\eL w' v ks.length (ks.map (Value.int .i64))/\(∀ad n c,v=J (Y ad) n c->w.heap.size<=ad.block)/\Below w.heap.size w w'
end
end Go.Proofs.YtdcainmlcpafbaaGreatDoor
