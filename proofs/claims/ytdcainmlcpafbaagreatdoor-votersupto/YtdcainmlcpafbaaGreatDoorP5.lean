import Derived.Test.YtdcainmlcpafbaaGreatDoorP3
import Derived.Test.YtdcainmlcpafbaaGreatDoorJ28
import Derived.Test.YtdcainmlcpafbaaGreatDoorJ30
import Derived.Test.YtdcainmlcpafbaaGreatDoorJ31
set_option linter.all false
set_option maxRecDepth 100000
namespace Go.Proofs.YtdcainmlcpafbaaGreatDoor
open Go.ChangeShapes Go.WideShapes Go.ChangeAt Go.RowKit

theorem wV (os:Os) {H:Type} (enc:TypeId×Value->H):∃ places,DataW.whole enc Tryz.prog ((World.doorLaid Tryz.prog 400 os).forCall (fun _ _=>0) ⟨#[],#[.agg #[.slice none 0 0,.slice none 0 0],.slice none 0 0],[]⟩).memory Tryz.f6.params.toList Rows.votersSpec.vars false #[Value.agg #[.slice none 0 0,.slice none 0 0],.slice none 0 0].toList 8=some ([.agg [.nil,.nil],.nil],[],places):=
  ⟨[],by kernel_rfl⟩
theorem voters_lifted (os:Os) (started:os.Started) (H:Type) (enc:TypeId×Value->H) (F:Stop.Interp) :
    ReturnsInHanded {} Tryz.checked os 6 .any ((Rows.OpenSpec.upto Rows.votersSpec).preRow enc Tryz.prog Tryz.f6 Rows.votersUptoRow.domain false Rows.votersUptoRow.laid) (((Rows.OpenSpec.upto Rows.votersSpec).at F).post enc Tryz.prog Tryz.f6 false true false false):=by
  obtain⟨places,hx⟩:=wV os enc
  refine returnsInHanded_of_row (C:=Tryz.checked) (s:=Rows.OpenSpec.upto Rows.votersSpec) own started (by kernel_rfl) Tryz.func6
    (witness_row_atRef (enc:=enc) (C:=Tryz.checked) false (World.doorLaid Tryz.prog 400 os) #[.agg #[.slice none 0 0,.slice none 0 0],.slice none 0 0] rfl (by kernel_rfl) (by kernel_rfl) (by kernel_rfl)
      (OpenSpec.preRow_of_cond 8 hx (by kernel_rfl) (fun k hk=>by cases hk;kernel_rfl) (by kernel_rfl) (E1 os _))) ?_
  intro W base args ds gs before hval0 hW _ hcond _ hL _ _
  have hk:Rows.uptoSmall H (ds++gs)=true:=hcond _ rfl
  have hval:∀ (j:Nat) t v,Tryz.f6.params[j]?=some t->args[j]?=some v->Value.okWide Tryz.prog W .any base t v:=hval0
  have hW':=hW
  obtain⟨p,q,hA0,hV,rfl,hfz,hnd⟩:=hW
  have hA:DataW.TrodAll enc Tryz.prog W 0 (fun _=>true) true Tryz.f6.params.toList args.toList ds p:=hA0
  rw[Tryz.params6] at hA hval
  obtain⟨v0,v1,d0,d1,p0,p1,rfl,rfl,rfl,h0,h1⟩:=trodAll_two hA
  obtain⟨rfl,rfl⟩:=trodVars_none hV
  have hN:=of_decide_eq_true hk
  simp only[List.append_nil,Rows.uptoBulkAll] at hN
  have h0k:=h0
  have h1k:=h1
  obtain⟨am,cm,ms,gr,rfl,hlm,hmok,hms⟩:=yT (hval 0 25 v0 rfl rfl) h0 (by omega)
  obtain⟨ao,c,ops,rfl,hl,hok,hos⟩:=CN (hval 1 26 v1 rfl rfl) h1 (by omega)
  clear hA0 hval0
  simp only[List.append_nil] at hW'
  refine(AU EY EZ CL IU EK am cm ms gr ao c ops W (wT hL) (by omega) hok hos (by omega) hmok hms).mono fun e W' ⟨he,hb⟩=>?_
  subst he
  refine⟨_,rfl,_,_,_,[],p0++p1,[],hW',trodAll_mk1 (shut_bool Tryz.underlying4 _),trodAll_mk2 (Below.trod tO (by kernel_rfl) (of_decide_eq_true (by kernel_rfl)) h0k hb (fun x hx=>?_)) (Below.trod tO (by kernel_rfl) (of_decide_eq_true (by kernel_rfl)) h1k hb (fun x hx=>?_)),rfl,hb.frame _,fun h=>by cases h⟩
  · simpa using hW'.lt x (by simp[hx])
  · simpa using hW'.lt x (by simp[hx])
end Go.Proofs.YtdcainmlcpafbaaGreatDoor
