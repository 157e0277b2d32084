import Derived.Test.YtdcainmlcpafbaaGreatDoorJ00
import Derived.Test.YtdcainmlcpafbaaGreatDoorRows
import Derived.ProofKit
import Derived.LaidMore
import Derived.OpenShut
import Derived.Stop.Joined
import Derived.Lib.LaidTab
namespace Go.Proofs.YtdcainmlcpafbaaGreatDoor
open Go.ChangeShapes Go.WideShapes Go.ChangeAt Go.RowKit
theorem own:ownKnob Tryz.prog.godebug=none:=by kernel_rfl
theorem DO:laidOutB Tryz.prog=true:=by kernel_rfl
theorem M5:Tryz.prog.globalNamed "keystone/wire.fieldsOf" = some 0:=by kernel_rfl
theorem M6:Tryz.prog.globalNamed "keystone/wire.limitsOf" = some 1:=by kernel_rfl
theorem M7:(Tryz.prog.globals[0]?).map (·.type)=some 302:=by kernel_rfl
theorem M8:(Tryz.prog.globals[1]?).map (·.type)=some 331:=by kernel_rfl
theorem RL:Tryz.prog.cellsOf 300=1:=by kernel_rfl
theorem E4:Tryz.prog.cellsOf 301=5:=by kernel_rfl
theorem RM:Tryz.prog.cellsOf 330=2:=by kernel_rfl
theorem c3:Tryz.prog.cellsOf 3=1:=by kernel_rfl
theorem BB {α β:Type} {xs:List (α×β)} {L:List α} (h:xs.map (·.1)=L) (i:Nat) (a:α) (hi:L[i]?=some a):∃ p,xs[i]?=some (a,p):=by
 subst h;rw[List.getElem?_map] at hi;match hx:xs[i]? with
 | none=>rw[hx] at hi;simp at hi
 | some (a',p)=>rw[hx] at hi;simp at hi;subst hi;exact⟨p,rfl⟩
def EP:List (String×DataW Unit):=[("keystone/wire.fieldsOf",Rows.laid_keystone_wire_fieldsOf),("keystone/wire.limitsOf",Rows.laid_keystone_wire_limitsOf)]
theorem F5 {W:World} (h:laidMetH Tryz.prog EP W):dW W:=by
 rw[MakeChecks.laidMetH_plain _ _ _ (by kernel_rfl)] at h;obtain⟨ps,⟨g0,t0,cs0,f0,p0,q0,hg0,ht0,hv0,hd0,⟨g1,t1,cs1,f1,p1,q1,hg1,ht1,hv1,hd1,_,_⟩,_⟩,_,_⟩:=h;obtain rfl:=Option.some.inj (M5.symm.trans hg0);obtain rfl:=Option.some.inj (M6.symm.trans hg1);obtain rfl:=Option.some.inj (M7.symm.trans ht0);obtain rfl:=Option.some.inj (M8.symm.trans ht1);have lu:∀ k j,k<11->j<5->W.cell? ⟨0,k*5+j,none⟩=some (.int .i64 (fG k j)):=by
  intro k j hk hj;obtain⟨xs,m1,rfl,hx1,hlen,hn,hel⟩:=DataW.trod_array Tryz.underlying302 hd0;simp only[Prod.mk.injEq] at hx1;have hmap:xs.map (·.1)=_:=(DataW.agg.inj hx1.1).symm;have hk2:=hel k hk;rw[E4] at hk2;obtain⟨p,hp⟩:=BB hmap k (Lib.tabData .i64 ((tU.getD k []).map Int.ofNat)) (by
   match k,hk with
   | 0,_|1,_|2,_|3,_|4,_|5,_|6,_|7,_|8,_|9,_|10,_=>rfl)
  rw[hp] at hk2;have hc:=Lib.cells_of_tab Tryz.underlying301 Tryz.underlying300 RL E4 hk2;rw[World.var?_cell hg0 hv0 (k*5+j)];have h5:=congrArg (·[j]?) hc;simp only[List.getElem?_take,List.getElem?_drop,hj,if_true] at h5;rw[Array.getElem?_toList] at h5;rw[h5];have:∀ k<11,∀ j<5,(((tU.getD k []).map Int.ofNat))[j]?=some (fG k j:Int):=by decide
  rw[List.getElem?_map,this k hk j hj];rfl
 have lim:∀ f,f<10->W.cell? ⟨1,f*2,none⟩=some (.int .i64 (kL f))/\W.cell? ⟨1,f*2+1,none⟩=some (.int .i64 (kM f)):=by
  intro f hf;obtain⟨xs,m1,rfl,hx1,hlen,hn,hel⟩:=DataW.trod_array Tryz.underlying331 hd1;simp only[Prod.mk.injEq] at hx1;have hmap:xs.map (·.1)=_:=(DataW.agg.inj hx1.1).symm;have hk2:=hel f hf;rw[RM] at hk2;obtain⟨p,hp⟩:=BB hmap f (.agg [.lit (.int .i64 (kL f)),.lit (.int .i64 (kM f))]) (by
   match f,hf with
   | 0,_|1,_|2,_|3,_|4,_|5,_|6,_|7,_|8,_|9,_=>rfl)
  rw[hp] at hk2;obtain⟨y0,y1,n,e,_,hy0,hy1⟩:=trod_struct2 Tryz.underlying330 hk2;simp only[Prod.mk.injEq,DataW.agg.injEq,List.cons.injEq,and_true] at e;obtain⟨a0,b0,rfl,_⟩:=DataW.trod_int Tryz.underlying3 hy0;obtain⟨a1,b1,rfl,_⟩:=DataW.trod_int Tryz.underlying3 hy1;dsimp only at e b0 b1;rw[c3] at b0 b1;simp only[DataW.lit.injEq,Lit.int.injEq,true_and] at e;obtain⟨⟨rfl,rfl⟩,_⟩:=e;rw[World.var?_cell hg1 hv1 (f*2),World.var?_cell hg1 hv1 (f*2+1)];have h0:=congrArg (·[0]?) b0;have h1:=congrArg (·[0]?) b1;simp[List.getElem?_drop] at h0 h1;exact⟨h0,h1⟩
 exact⟨lu,lim,World.block_lt_of_cell? W ⟨1,0,none⟩ (lim 0 (by omega)).1⟩
theorem LW (os:Os) (args:Array Value):laidMetH Tryz.prog EP ((World.doorLaid Tryz.prog 400 os).forCall (λ_ _=>0) ⟨#[],args,[]⟩).memory:=laidMetH_of_parts3 (fuel:=8) (laidMet_of_run' 8 (by kernel_rfl) (by kernel_rfl)) (by kernel_rfl) (by kernel_rfl)
end Go.Proofs.YtdcainmlcpafbaaGreatDoor
