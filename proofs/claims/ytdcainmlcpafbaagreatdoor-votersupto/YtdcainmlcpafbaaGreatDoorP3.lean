import Derived.Test.YtdcainmlcpafbaaGreatDoorP2
import Derived.Test.YtdcainmlcpafbaaGreatDoorJ04
import Derived.Deep.DeepHandedRow
import Derived.Deep.DeepWitnessRowRef
set_option linter.all false
set_option maxRecDepth 100000
namespace Go.Proofs.YtdcainmlcpafbaaGreatDoor
open Go.ChangeShapes Go.WideShapes Go.ChangeAt Go.RowKit

theorem uM:Tryz.prog.cellsOf 136=11:=by kernel_rfl
theorem K9:Tryz.prog.cellsOf 59=1:=by kernel_rfl
theorem E2 {H:Type} (d:DataW H):1<=Rows.uptoBulk d:=by
 cases d with
 | lit l=>cases l<;>simp[Rows.uptoBulk]
 | nil=>simp[Rows.uptoBulk]
 | ptr d=>simp[Rows.uptoBulk]
 | slice elems spare=>simp[Rows.uptoBulk]
 | agg parts=>simp[Rows.uptoBulk]
 | iface t d=>simp[Rows.uptoBulk]
 | map entries=>simp[Rows.uptoBulk]
 | held h=>simp[Rows.uptoBulk]
theorem oQ {H:Type}:∀ (l:List (DataW H)),l.length<=Rows.uptoBulkAll l/\∀ i (h:i<l.length),Rows.uptoBulk l[i]<=Rows.uptoBulkAll l:=by
 intro l
 induction l with
 | nil=>exact⟨by simp[Rows.uptoBulkAll],fun i h=>by simp at h⟩
 | cons x r ih=>
  have hx:=E2 x
  refine⟨by simp only[Rows.uptoBulkAll,List.length_cons];omega,fun i h=>?_⟩
  match i with
  | 0=>simp only[Rows.uptoBulkAll,List.getElem_cons_zero];omega
  | i+1=>
   have:=ih.2 i (by simpa using h)
   simp only[Rows.uptoBulkAll,List.getElem_cons_succ]
   omega
theorem nU {H:Type} {xs:List (DataW H×List MemPlace)} {N:Nat} (h:Rows.uptoBulk (.agg (xs.map (·.1)))<=N) {i:Nat} {y:DataW H×List MemPlace} (hy:xs[i]?=some y):Rows.uptoBulk y.1<=N:=by
 obtain⟨hi,rfl⟩:=List.getElem?_eq_some_iff.1 hy
 have:=(oQ (xs.map (·.1))).2 i (by simpa using hi)
 simp only[Rows.uptoBulk,List.getElem_map] at this h
 omega
section
variable {H:Type} {enc:TypeId×Value->H} {W:World} {base:Nat} {spare:Nat->Bool} {held:Bool}
theorem pV {α:Type} (cellsF:α->List Value) (ok:α->Prop) (N:Nat) (c:Nat) (hc0:0<c) {t e:TypeId} (ht:Tryz.prog.underlying t=some (.slice e)) (hc:Tryz.prog.cellsOf e=c) (hcl:∀ r,(cellsF r).length=c)
  (hdec:∀ n cs y,DataW.trod enc Tryz.prog W base spare held n e cs=some y->Rows.uptoBulk y.1<=N->∃ r,cs=cellsF r/\ok r) {fuel:Nat} {cs:List Value} {x:DataW H×List MemPlace} (h:DataW.trod enc Tryz.prog W base spare held fuel t cs=some x) (hN:Rows.uptoBulk x.1<=N) :
  ∃ (ao:Option Addr) (cap:Nat) (rs:List α),cs=[.slice ao rs.length cap]/\rs.length<=N/\(∀ r∈rs,ok r)/\
   (rs=[]∨∃ g off,ao=some ⟨g,off,none⟩/\g<W.heap.size/\∀ j (h:j<rs.length) i,i<c->W.cell? ⟨g,off+j*c+i,none⟩=some ((cellsF rs[j]).getD i undef)):=by
 rcases DataW.trod_slice ht h with⟨h0,_⟩|⟨a,len,cap,elems,rest,n,_,rfl,rfl,hb,hl,hm,hlen,hel,_,_⟩
 ·exact⟨none,0,[],h0,by simp,by simp,.inl rfl⟩
 ·simp only[Rows.uptoBulk] at hN
  have hsum:=oQ (elems.map (·.1))
  have hlN:len<=N:=by have:=hsum.1;rw[List.length_map] at this;omega
  have each:∀ i,i<len->∃ r,W.cells? base (a.add (i*c)) c=some (cellsF r)/\ok r:=by
   intro i hi
   have h1:=hel i hi
   rw[hc] at h1
   have h2:elems[i]?=some elems[i]:=by simp
   rw[h2,Option.bind_eq_some_iff] at h1
   obtain⟨cs',h3,h4⟩:=h1
   have hbi:Rows.uptoBulk elems[i].1<=N:=by
    have:=hsum.2 i (by rw[List.length_map];omega)
    rw[List.getElem_map] at this
    omega
   obtain⟨r,rfl,hr⟩:=hdec n cs' _ h4 hbi
   exact⟨r,h3,hr⟩
  obtain⟨l,hll,hp⟩:=wU _ len each
  refine⟨some a,cap,l,by rw[hll],by omega,fun r hr=>?_,?_⟩
  ·obtain⟨i,hi,rfl⟩:=List.getElem_of_mem hr
   exact(hp i hi).2
  ·by_cases h0:len=0
   ·exact .inl (List.length_eq_zero_iff.mp (by omega))
   ·have cell:∀ j (hj:j<l.length) i,i<c->W.cell? ((a.add (j*c)).add i)=some ((cellsF l[j]).getD i undef):=by
     intro j hj i hi
     obtain⟨_,_,h3⟩:=World.cells?_some (hp j hj).1
     rw[h3 i hi,List.getD_eq_getElem?_getD,List.getElem?_eq_getElem (by rw[hcl];exact hi)]
     rfl
    obtain⟨g,off,spot⟩:=a
    have hs:=World.cell?_spot (cell 0 (by omega) 0 hc0)
    have hspot:spot=none:=by simpa[Addr.add] using hs
    subst hspot
    refine .inr ⟨g,off,rfl,?_,?_⟩
    ·have:=World.block_lt_of_cell? W _ (cell 0 (by omega) 0 hc0)
     simpa[Addr.add] using this
    ·intro j hj i hi
     have:=cell j hj i hi
     rw[add_plain,add_plain] at this
     exact this
theorem E3 {n:Nat} {cs:List Value} {y:DataW H×List MemPlace} (h:DataW.trod enc Tryz.prog W base spare held n 93 cs=some y) (hN:Rows.uptoBulk y.1<=1048576):∃ o:fE,cs=o.cells/\o.okP:=by
 obtain⟨o,rfl,hok⟩:=GR h
 refine⟨o,rfl,hok,?_⟩
 obtain⟨xs,m,_,rfl,hcl,hlen,hfs⟩:=DataW.trod_struct Tryz.underlying93 h
 have hlen:xs.length=5:=hlen
 have q4:DataW.trod enc Tryz.prog W base spare held m 9 ((o.cells.drop 4).take (Tryz.prog.cellsOf 9))=xs[4]?:=hfs 4 _ rfl
 rw[c9] at q4
 obtain⟨y4,hy4⟩:∃ y,xs[4]?=some y:=⟨xs[4],by simp⟩
 have hb:=nU hN hy4
 rw[hy4] at q4
 obtain⟨S,hS,rfl,hSz⟩:=DataW.trod_string Tryz.underlying9 q4
 have e:o.S=S:=by simpa[fE.cells] using hS
 simp only[Rows.uptoBulk,Array.length_toList] at hb
 rw[e]
 show S.data.size<=_
 omega
theorem CM {n:Nat} {cs:List Value} {y:DataW H×List MemPlace} (h:DataW.trod enc Tryz.prog W base spare held n 136 cs=some y) (hN:Rows.uptoBulk y.1<=1048576) (hsp:∀ k,spare k=true):∃ r:aU,cs=r.cells/\(r.ok/\bG W r.a r.zs):=by
 obtain⟨xs,m,_,rfl,hcl,hlen,hfs⟩:=DataW.trod_struct Tryz.underlying136 h
 have hlen:xs.length=11:=hlen
 rw[uM] at hcl
 match cs,hcl with
 | [v0,v1,v2,v3,v4,v5,v6,v7,v8,v9,v10],_=>
  have g:∀ i,i<11->∃ y,xs[i]?=some y:=fun i hi=>⟨xs[i],by simp⟩
  have q0:DataW.trod enc Tryz.prog W base spare held m 3 (([v0,v1,v2,v3,v4,v5,v6,v7,v8,v9,v10].drop 0).take (Tryz.prog.cellsOf 3))=xs[0]?:=hfs 0 _ rfl
  rw[c3] at q0
  have q1:DataW.trod enc Tryz.prog W base spare held m 3 (([v0,v1,v2,v3,v4,v5,v6,v7,v8,v9,v10].drop 1).take (Tryz.prog.cellsOf 3))=xs[1]?:=hfs 1 _ rfl
  rw[c3] at q1
  have q2:DataW.trod enc Tryz.prog W base spare held m 3 (([v0,v1,v2,v3,v4,v5,v6,v7,v8,v9,v10].drop 2).take (Tryz.prog.cellsOf 3))=xs[2]?:=hfs 2 _ rfl
  rw[c3] at q2
  have q3:DataW.trod enc Tryz.prog W base spare held m 3 (([v0,v1,v2,v3,v4,v5,v6,v7,v8,v9,v10].drop 3).take (Tryz.prog.cellsOf 3))=xs[3]?:=hfs 3 _ rfl
  rw[c3] at q3
  have q4:DataW.trod enc Tryz.prog W base spare held m 3 (([v0,v1,v2,v3,v4,v5,v6,v7,v8,v9,v10].drop 4).take (Tryz.prog.cellsOf 3))=xs[4]?:=hfs 4 _ rfl
  rw[c3] at q4
  have q5:DataW.trod enc Tryz.prog W base spare held m 3 (([v0,v1,v2,v3,v4,v5,v6,v7,v8,v9,v10].drop 5).take (Tryz.prog.cellsOf 3))=xs[5]?:=hfs 5 _ rfl
  rw[c3] at q5
  have q6:DataW.trod enc Tryz.prog W base spare held m 3 (([v0,v1,v2,v3,v4,v5,v6,v7,v8,v9,v10].drop 6).take (Tryz.prog.cellsOf 3))=xs[6]?:=hfs 6 _ rfl
  rw[c3] at q6
  have q7:DataW.trod enc Tryz.prog W base spare held m 3 (([v0,v1,v2,v3,v4,v5,v6,v7,v8,v9,v10].drop 7).take (Tryz.prog.cellsOf 3))=xs[7]?:=hfs 7 _ rfl
  rw[c3] at q7
  have q8:DataW.trod enc Tryz.prog W base spare held m 3 (([v0,v1,v2,v3,v4,v5,v6,v7,v8,v9,v10].drop 8).take (Tryz.prog.cellsOf 3))=xs[8]?:=hfs 8 _ rfl
  rw[c3] at q8
  have q9:DataW.trod enc Tryz.prog W base spare held m 3 (([v0,v1,v2,v3,v4,v5,v6,v7,v8,v9,v10].drop 9).take (Tryz.prog.cellsOf 3))=xs[9]?:=hfs 9 _ rfl
  rw[c3] at q9
  have q10:DataW.trod enc Tryz.prog W base spare held m 59 (([v0,v1,v2,v3,v4,v5,v6,v7,v8,v9,v10].drop 10).take (Tryz.prog.cellsOf 59))=xs[10]?:=hfs 10 _ rfl
  rw[K9] at q10
  obtain⟨y0,hy0⟩:=g 0 (by omega)
  rw[hy0] at q0
  obtain⟨K,rfl,bK⟩:=gJ q0
  obtain⟨y1,hy1⟩:=g 1 (by omega)
  rw[hy1] at q1
  obtain⟨F,rfl,bF⟩:=gJ q1
  obtain⟨y2,hy2⟩:=g 2 (by omega)
  rw[hy2] at q2
  obtain⟨E,rfl,bE⟩:=gJ q2
  obtain⟨y3,hy3⟩:=g 3 (by omega)
  rw[hy3] at q3
  obtain⟨B,rfl,bB⟩:=gJ q3
  obtain⟨y4,hy4⟩:=g 4 (by omega)
  rw[hy4] at q4
  obtain⟨WA,rfl,bWA⟩:=gJ q4
  obtain⟨y5,hy5⟩:=g 5 (by omega)
  rw[hy5] at q5
  obtain⟨P,rfl,bP⟩:=gJ q5
  obtain⟨y6,hy6⟩:=g 6 (by omega)
  rw[hy6] at q6
  obtain⟨S,rfl,bS⟩:=gJ q6
  obtain⟨y7,hy7⟩:=g 7 (by omega)
  rw[hy7] at q7
  obtain⟨Q,rfl,bQ⟩:=gJ q7
  obtain⟨y8,hy8⟩:=g 8 (by omega)
  rw[hy8] at q8
  obtain⟨BL,rfl,bBL⟩:=gJ q8
  obtain⟨y9,hy9⟩:=g 9 (by omega)
  rw[hy9] at q9
  obtain⟨V,rfl,bV⟩:=gJ q9
  obtain⟨y10,hy10⟩:=g 10 (by omega)
  have hb:=nU hN hy10
  rw[hy10] at q10
  rcases open_ints Tryz.underlying59 Tryz.underlying3 c3 q10 with⟨hcs,_⟩|⟨ad,len,cap,zs,hcs,_,hl,hm,hzl,rfl,hcell,hwz⟩
  ·have e10:v10=.slice none 0 0:=by simpa using hcs
   subst e10
   exact⟨⟨K,F,E,B,WA,P,S,Q,BL,V,none,0,[]⟩,rfl,⟨bK,bV,by simp⟩,.inl rfl⟩
  ·have e10:v10=.slice (some ad) len cap:=by simpa using hcs
   subst e10
   have hzl:zs.length=cap:=by rw[hzl,hsp];rfl
   have htl:(zs.take len).length=len:=by rw[List.length_take];omega
   have hlN:len<=1048576:=by
    simp only[Rows.uptoBulk] at hb
    have h1:=(oQ (lits (H:=H) .i64 (zs.take len))).1
    have h2:(lits (H:=H) .i64 (zs.take len)).length=len:=by simp[lits];omega
    omega
   refine⟨⟨K,F,E,B,WA,P,S,Q,BL,V,some ad,cap,zs.take len⟩,by simp only[aU.cells];rw[htl],⟨bK,bV,by show(zs.take len).length<=2000000;omega⟩,?_⟩
   by_cases h0:len=0
   ·exact .inl (by simp[h0])
   ·obtain⟨b,off,rfl,hc⟩:=ints_at hcell (by omega)
    refine .inr ⟨b,off,rfl,World.block_lt_of_cell? W ⟨b,off+0,none⟩ (hc 0 (by omega)),fun j hj=>?_⟩
    have hj:j<(zs.take len).length:=hj
    rw[htl] at hj
    rw[hc j (by omega)]
    simp[List.getD_eq_getElem?_getD,show j<zs.length by omega]
end
theorem CN {H:Type} {enc:TypeId×Value->H} {W:World} {base:Nat} {v:Value} {d:DataW H} {ps:List MemPlace} (hv:Value.okWide Tryz.prog W .any base 26 v) (h:DataW.Trod enc Tryz.prog W 0 (fun _=>true) true 26 v d ps) (hN:Rows.uptoBulk d<=1048576) :
  ∃ (ao:Option Addr) (c:Nat) (os:List fE),v=.slice ao os.length c/\os.length<=1048576/\(∀ o∈os,o.okP)/\jL W ao os:=by
 obtain⟨a',l',c',rfl⟩:=okWide_slice Tryz.underlying26 hv
 obtain⟨fuel,hf⟩:=h
 obtain⟨ao,cap,rs,h1,h2,h3,h4⟩:=pV fE.cells fE.okP 1048576 5 (by omega) Tryz.underlying26 uL (fun _=>rfl) (fun n cs y=>E3) hf hN
 simp[Value.cells] at h1
 obtain⟨rfl,rfl,rfl⟩:=h1
 exact⟨a',c',rs,rfl,h2,h3,h4⟩
theorem yT {H:Type} {enc:TypeId×Value->H} {W:World} {base:Nat} {v:Value} {d:DataW H} {ps:List MemPlace} (hv:Value.okWide Tryz.prog W .any base 25 v) (h:DataW.Trod enc Tryz.prog W 0 (fun _=>true) true 25 v d ps) (hN:Rows.uptoBulk d<=1048576) :
  ∃ (am:Option Addr) (cm:Nat) (ms:List aU) (gr:Value),v=.agg #[.slice am ms.length cm,gr]/\ms.length<=1048576/\(∀ m∈ms,m.ok)/\kG W am ms:=by
 obtain⟨cs,rfl,hsz⟩:=okWide_struct Tryz.underlying25 hv
 rw[pR] at hsz
 obtain⟨l⟩:=cs
 simp only[List.size_toArray] at hsz
 match l,hsz with
 | [v0,v1],_=>
  obtain⟨fuel,hf⟩:=h
  obtain⟨xs,n,_,hx,_,hlen,hfs⟩:=DataW.trod_struct Tryz.underlying25 hf
  have hlen:xs.length=2:=hlen
  have g:∀ i,i<2->∃ y,xs[i]?=some y:=fun i hi=>⟨xs[i],by simp⟩
  have q0:DataW.trod enc Tryz.prog W 0 (fun _=>true) true n 22 (([v0,v1].drop 0).take (Tryz.prog.cellsOf 22))=xs[0]?:=hfs 0 _ rfl
  rw[pQ] at q0
  obtain⟨y0,hy0⟩:=g 0 (by omega)
  rw[hy0] at q0
  have hd:d=.agg (xs.map (·.1)):=congrArg Prod.fst hx
  rw[hd] at hN
  have hb:=nU hN hy0
  obtain⟨am,cap,ms,h1,h2,h3,h4⟩:=pV aU.cells (fun r:aU=>r.ok/\bG W r.a r.zs) 1048576 11 (by omega) Tryz.underlying22 uM (fun _=>rfl) (fun n cs y hy hb=>CM hy hb (fun _=>rfl)) q0 hb
  obtain rfl:v0=.slice am ms.length cap:=by simpa using h1
  exact⟨am,cap,ms,v1,rfl,h2,fun m hm=>(h3 m hm).1,⟨h4,fun m hm=>(h3 m hm).2⟩⟩
end Go.Proofs.YtdcainmlcpafbaaGreatDoor
