import Derived.Test.YtdcainmlcpafbaaGreatDoorJ00
import Derived.Test.YtdcainmlcpafbaaGreatDoorRows
import Derived.ProofKit
import Derived.LaidMore
import Derived.OpenShut
import Derived.Stop.Joined
import Derived.Lib.LaidTab
namespace Go.Proofs.YtdcainmlcpafbaaGreatDoor
open Go.ChangeShapes Go.WideShapes Go.ChangeAt Go.RowKit
theorem own:ownKnob Tryz.prog.godebug=none:=by kernel_rfl
theorem yH:laidOutB Tryz.prog=true:=by kernel_rfl
theorem O3:Tryz.prog.globalNamed "keystone/wire.fieldsOf" = some 0:=by kernel_rfl
theorem O4:Tryz.prog.globalNamed "keystone/wire.limitsOf" = some 1:=by kernel_rfl
theorem O5:(Tryz.prog.globals[0]?).map (·.type)=some 302:=by kernel_rfl
theorem O6:(Tryz.prog.globals[1]?).map (·.type)=some 331:=by kernel_rfl
theorem TR:Tryz.prog.cellsOf 300=1:=by kernel_rfl
theorem GM:Tryz.prog.cellsOf 301=5:=by kernel_rfl
theorem TS:Tryz.prog.cellsOf 330=2:=by kernel_rfl
theorem c3:Tryz.prog.cellsOf 3=1:=by kernel_rfl
theorem CC {α β:Type} {xs:List (α×β)} {L:List α} (h:xs.map (·.1)=L) (i:Nat) (a:α) (hi:L[i]?=some a):∃ p,xs[i]?=some (a,p):=by
 subst h;rw[List.getElem?_map] at hi;match hx:xs[i]? with
 | none=>rw[hx] at hi;simp at hi
 | some (a',p)=>rw[hx] at hi;simp at hi;subst hi;exact⟨p,rfl⟩
def F1:List (String×DataW Unit):=[("keystone/wire.fieldsOf",Rows.laid_keystone_wire_fieldsOf),("keystone/wire.limitsOf",Rows.laid_keystone_wire_limitsOf)]
theorem IA {W:World} (h:laidMetH Tryz.prog F1 W):dY W:=by
 rw[MakeChecks.laidMetH_plain _ _ _ (by kernel_rfl)] at h;obtain⟨ps,⟨g0,t0,cs0,f0,p0,q0,hg0,ht0,hv0,hd0,⟨g1,t1,cs1,f1,p1,q1,hg1,ht1,hv1,hd1,_,_⟩,_⟩,_,_⟩:=h;obtain rfl:=Option.some.inj (O3.symm.trans hg0);obtain rfl:=Option.some.inj (O4.symm.trans hg1);obtain rfl:=Option.some.inj (O5.symm.trans ht0);obtain rfl:=Option.some.inj (O6.symm.trans ht1);have mh:∀ k j,k<11->j<5->W.cell? ⟨0,k*5+j,none⟩=some (.int .i64 (fO k j)):=by
  intro k j hk hj;obtain⟨xs,m1,rfl,hx1,hlen,hn,hel⟩:=DataW.trod_array Tryz.underlying302 hd0;simp only[Prod.mk.injEq] at hx1;have hmap:xs.map (·.1)=_:=(DataW.agg.inj hx1.1).symm;have hk2:=hel k hk;rw[GM] at hk2;obtain⟨p,hp⟩:=CC hmap k (Lib.tabData .i64 ((uH.getD k []).map Int.ofNat)) (by
   match k,hk with
   | 0,_|1,_|2,_|3,_|4,_|5,_|6,_|7,_|8,_|9,_|10,_=>rfl)
  rw[hp] at hk2;have hc:=Lib.cells_of_tab Tryz.underlying301 Tryz.underlying300 TR GM hk2;rw[World.var?_cell hg0 hv0 (k*5+j)];have h5:=congrArg (·[j]?) hc;simp only[List.getElem?_take,List.getElem?_drop,hj,if_true] at h5;rw[Array.getElem?_toList] at h5;rw[h5];have:∀ k<11,∀ j<5,(((uH.getD k []).map Int.ofNat))[j]?=some (fO k j:Int):=by decide
  rw[List.getElem?_map,this k hk j hj];rfl
 have lim:∀ f,f<10->W.cell? ⟨1,f*2,none⟩=some (.int .i64 (kS f))/\W.cell? ⟨1,f*2+1,none⟩=some (.int .i64 (kT f)):=by
  intro f hf;obtain⟨xs,m1,rfl,hx1,hlen,hn,hel⟩:=DataW.trod_array Tryz.underlying331 hd1;simp only[Prod.mk.injEq] at hx1;have hmap:xs.map (·.1)=_:=(DataW.agg.inj hx1.1).symm;have hk2:=hel f hf;rw[TS] at hk2;obtain⟨p,hp⟩:=CC hmap f (.agg [.lit (.int .i64 (kS f)),.lit (.int .i64 (kT f))]) (by
   match f,hf with
   | 0,_|1,_|2,_|3,_|4,_|5,_|6,_|7,_|8,_|9,_=>rfl)
  rw[hp] at hk2;obtain⟨y0,y1,n,e,_,hy0,hy1⟩:=trod_struct2 Tryz.underlying330 hk2;simp only[Prod.mk.injEq,DataW.agg.injEq,List.cons.injEq,and_true] at e;obtain⟨a0,b0,rfl,_⟩:=DataW.trod_int Tryz.underlying3 hy0;obtain⟨a1,b1,rfl,_⟩:=DataW.trod_int Tryz.underlying3 hy1;dsimp only at e b0 b1;rw[c3] at b0 b1;simp only[DataW.lit.injEq,Lit.int.injEq,true_and] at e;obtain⟨⟨rfl,rfl⟩,_⟩:=e;rw[World.var?_cell hg1 hv1 (f*2),World.var?_cell hg1 hv1 (f*2+1)];have h0:=congrArg (·[0]?) b0;have h1:=congrArg (·[0]?) b1;simp[List.getElem?_drop] at h0 h1;exact⟨h0,h1⟩
 exact⟨mh,lim,World.block_lt_of_cell? W ⟨1,0,none⟩ (lim 0 (by omega)).1⟩
theorem NL (os:Os) (args:Array Value):laidMetH Tryz.prog F1 ((World.doorLaid Tryz.prog 400 os).forCall (λ_ _=>0) ⟨#[],args,[]⟩).memory:=laidMetH_of_parts3 (fuel:=8) (laidMet_of_run' 8 (by kernel_rfl) (by kernel_rfl)) (by kernel_rfl) (by kernel_rfl)
end Go.Proofs.YtdcainmlcpafbaaGreatDoor
