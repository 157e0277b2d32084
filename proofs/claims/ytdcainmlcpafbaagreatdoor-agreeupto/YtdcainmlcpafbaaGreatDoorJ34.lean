import Derived.Test.YtdcainmlcpafbaaGreatDoorJ33
set_option linter.all false
set_option maxHeartbeats 8000000
set_option maxRecDepth 20000
namespace Go.Proofs.YtdcainmlcpafbaaGreatDoor
open Go.RowKit
open Value renaming int->I,slice->J,pointer->P0
open Tryz
open Tryz renaming prog->pG
open IntKind renaming i64->T
open Option renaming none->Z,some->Y
open Obj renaming cells->G
open Value (bool)
theorem PE(r:eE):r.cells.length=3:=rfl
theorem oZ{w:World}{g:Nat}{rs:List eE}(a:∀j u,(rs.flatMap eE.cells)[j]?=Y u->w.cell? ⟨g,j,Z⟩=Y u)(k:Nat)(c:k<rs.length)(x:eE)(e:rs[k]=x):w.rangeAt g (k*3) [I T x.E,I T x.P,I T x.S]:=by
 intro j u b;have d:j<3:=by have:=(List.getElem?_eq_some_iff.1 b).1;simpa using this
 rw[a _ _ (kO eE.cells 3 PE rs k c j d),e];show Y ([I T x.E,I T x.P,I T x.S].getD j undef)=_;rw[List.getD_eq_getElem?_getD,b];rfl
theorem B6(hLO:jA)(hUO:i9)(Wc base t:Nat)(hs:List Ho)(s:CS)(i:Nat)(w:World)(h:CA w Wc base t true hs s)(hi:i<s.ns.length)(ht:t<=1000000)(hL:pI s i):Calls pG 50 #[P0 (Y ⟨Wc,0,Z⟩),I T (i:Int)] w fun q w'=>q=.returned (.tuple #[])/\CA w' Wc base t true hs (s.look i)/\Below base w w':=by
 obtain⟨v,h⟩:=h;obtain⟨i0,bJ,bV,c4,bE⟩:=info_parts wD;have ap:i<hs.length:=by rw[h.hl];exact hi
 have dc:=h.n5;have d4:=h.hl;obtain⟨g0,d0,cb,c0,da,bC⟩:=h.ones (k:=0) (by decide) (show 0<hs.length by omega);have x0:=bC i (P0 (Y ⟨hs[i].Kn,0,Z⟩)) (by show(hs.map _)[i]?=_;rw[List.getElem?_map,List.getElem?_eq_getElem ap];rfl);have cL:rN hs s 0=hs.length:=rfl;rw[cL]at c0;have bU:=dA ((h.host i ap hi).done hLO hUO);have HH:=dA h;have HL:=dA hL;have av:=dA cb;have d7:=fun a w=>B5 a w;have d9:(0:Int)<=(i:Int)/\(i:Int)<(hs.length:Int):=by omega
 clear h hL bC;go_enter func50,ntmps50;go_wp2_with fail;refine bU.out.mono ?_;rintro r1 w1 ⟨vl,rfl,aA,_,aM,bL⟩;clear bU;obtain⟨q1,q2⟩:=HH.out.gu (n':={s.ns[i] with res:=[]}) ap hi aM bL ⟨rfl,rfl,rfl⟩;have b0:=dA q1;have cM:=dA q2;have bf:=dA aA;obtain⟨la,lc,rfl⟩:=eB aA;have N:s.nd i=s.ns[i]:=CS.ku hi;clear q1 q2 aM bL aA c0 x0 HH;obtain⟨S1,z⟩:∃y,({s with ns:=s.ns.set i {s.ns[i] with res:=[]}}:CS)=y:=⟨_,rfl⟩;obtain⟨A,ao⟩:∃y,({s.tell i with ns:=s.ns.set i {s.ns[i] with res:=[]}}:CS)=y:=⟨_,rfl⟩;rw[z]at b0;obtain⟨L,az⟩:∃y,s.ns[i].res.length=y:=⟨_,rfl⟩;have bx:Hid (L=0->S1=A):=by
  intro f;have h8:s.ns[i].res=[]:=List.length_eq_zero_iff.1 (by omega);rw[←z,←ao];have h7:s.tell i=s:=by unfold CS.tell;rw[N,h8]
  rw[h7]
 have bn:Hid (0<L->L=1/\∃r,s.ns[i].res=[r]/\∀wr,(∃vv,dP wr Wc base t vv true hs S1)->Calls pG 83 #[P0 (Y ⟨Wc,0,Z⟩),I T (i:Int),.agg #[I T r.op,I T r.bl,I T r.v,I T r.e,I T r.q]] wr fun q w'=>q=.returned (.tuple #[])/\(∃vv,dP w' Wc base t vv true hs A)/\Below base wr w'):=by
  intro f;rcases HL.out.res with h8|⟨r,p,h8,h7,hp,h6,h5⟩;·rw[N]at h8;rw[h8]at az;simp at az;omega
  ·rw[N]at h8;refine⟨by rw[h8]at az;simpa using az.symm,r,h8,fun wr cl=>?_⟩;have bO:i<s.lv.length:=by have h1:=b0.out.ll.1;rw[←z]at h1;have h2:s.lv.length=(s.ns.set i {s.ns[i] with res:=[]}).length:=h1;rw[h2];simpa using hi
   have ci:s.lv.getD i 0=s.lv[i]:=by rw[List.getD_eq_getElem?_getD,List.getElem?_eq_getElem bO];rfl
   obtain⟨dd,m1,m2⟩:=List.findIdx?_eq_some_iff_getElem.1 h7;rw[ci]at m1 m2;have e9:=M6 Wc base t true hs S1 i s.lv[i] r p wr cl (by rw[←z];exact bO) (by subst z;rfl) (by rw[←z];exact hp) (by subst z;exact m1) (by subst z;intro j hj cp;have:=m2 j cp;simpa using this) (by subst z;exact h6) (by subst z;exact h5) (by subst z;exact HL.out.bd.1) (by subst z;exact⟨HL.out.bd.2.1,HL.out.bd.2.2.1⟩);refine e9.mono ?_;rintro q w' ⟨rfl,hc,hb⟩;refine⟨rfl,?_,hb⟩;have e8:({S1 with ops:=S1.ops.set p {S1.ops[p]'(by rw[←z];exact hp) with dn:=true},rs:=S1.rs++[r],rd:=S1.rd++[(S1.ops[p]'(by rw[←z];exact hp)).rd]}:CS)=A:=by
    subst z;subst ao;have h4:s.tell i={s with ops:=s.ops.set p {s.ops[p] with dn:=true},rs:=s.rs++[r],rd:=s.rd++[s.ops[p].rd]}:=by unfold CS.tell;rw[N,h8];dsimp only;rw[h7];dsimp only;rw[List.getD_eq_getElem?_getD,List.getElem?_eq_getElem hp];rfl
    rw[h4]
   rw[←e8];exact hc
 rw[az]at bf⊢;go_upto_region 3 with fail;go_loopw [5] (fun s5 wr=>∃k:Nat,k<=L/\s5=I T (k:Int)/\Below base w wr/\(∃vv,dP wr Wc base t vv true hs (if k=0 then S1 else A))/\(k=0->wr=w1)) (fun s5 wr=>L - (intOf s5).toNat);case atStart=>exact⟨0,by omega,rfl,cM,⟨v,b0⟩,fun _=>rfl⟩
 case round=>
  obtain⟨k,db,rfl,aQ,X,bo⟩:=hrel;by_cases aa:k<L
  ·obtain⟨cD,r,hr,hE⟩:=bn.out (by omega);obtain rfl:k=0:=by omega
   obtain rfl:=bo rfl;have HE:=dA (hE wr X);have bc:=dA aQ;have cI:wr.rangeAt 0 0 []:=by intro k u o;simp at o
   subst cD;rw[hr]at bf;obtain⟨g,de,h1,U,l⟩:=(eY.gq bf).at (by omega);cases h1;have cQ:Hid (wr.rangeAt g 0 [I T r.op,I T r.bl,I T r.v,I T r.e,I T r.q]):=by intro k u o;rw[Nat.zero_add];exact l k u (by simpa[dJ.cells] using o)
   clear cI l hE aQ X bo bn;go_wp2_with(refine wpList_load_mid rfl 76 _ rfl g 0 rfl [I T r.op,I T r.bl,I T r.v,I T r.e,I T r.q] _ cQ underlying76 rfl (by kernel_rfl) ?_);refine HE.out.mono ?_;rintro q w2 ⟨rfl,aS,cj⟩;go_wp2_with fail;go_roundw;case rel=>exact⟨1,by omega,rfl,bc.out.trans cj,by simpa using aS,by omega⟩
   case measure=>simp[intOf]
  have bG:∃vv,dP wr Wc base t vv true hs A:=by
   by_cases bW:k=0;·rw[if_pos bW]at X;have f:=bx.out (by omega);rw[←f];exact X
   ·rw[if_neg bW]at X;exact X
  have bc:=dA aQ;obtain⟨v2,aS⟩:=bG;have aH:=dA aS;have bM:decide ((k:Int)<(L:Int))=false:=by simp;omega
  clear X bo aQ bx bn aS;have c6:A.ns=s.ns.set i {s.ns[i] with res:=[]}:=by rw[←ao]
  have aP:i<A.ns.length:=by rw[c6];simpa using hi
  have cq:A.ns[i]={s.ns[i] with res:=[]}:=by simp only[c6,List.getElem_set_self]
  obtain⟨g1,cX,cJ,c1,d6,bQ⟩:=aH.out.ones (k:=0) (by decide) (show 0<hs.length by omega);have x1:=bQ i (P0 (Y ⟨hs[i].Kn,0,Z⟩)) (by show(hs.map _)[i]?=_;rw[List.getElem?_map,List.getElem?_eq_getElem ap];rfl);have ce:rN hs A 0=hs.length:=rfl;rw[ce]at c1;have bS:=dA ((aH.out.host i ap aP).recs hLO hUO ht);clear bQ cJ;go_wp2_with fail;refine bS.out.mono ?_;rintro q w3 ⟨vr,rfl,ae,cN,cf⟩;clear bS c1 x1;have ch:A.ns.set i A.ns[i]=A.ns:=List.set_getElem_self aP;obtain⟨q1,q2⟩:=aH.out.gu (n':=A.ns[i]) ap aP cN cf ⟨rfl,rfl,rfl⟩;rw[ch]at q1;have ax:Hid (dP w3 Wc base t v2 true hs A):=q1;have c2:Hid (Below base w w3):=bc.out.trans q2;rw[cq]at ae;obtain⟨rc,W⟩:∃y,s.ns[i].d.recs=y:=⟨_,rfl⟩;have a0:w3.ownsRow wr.heap.size 66 3 vr rc.length (rc.flatMap eE.cells):=by rw[←W];exact ae
  obtain⟨ra,a6,rfl⟩:=eB a0;have bt:=dA a0;obtain⟨ay,bX⟩:∃y,wr.heap.size=y:=⟨_,rfl⟩;have bK:∀g,(J ra rc.length a6).ownBlock=some g->∀k∈eO,(v2 k).ownBlock≠some g:=by intro g U k hk f;have h8:=(a0.lt g U).1;have h7:=((aH.out.row k hk).lt g f).2;omega
  have ag:=HL.out;have l1:=ag.kn;have l2:=ag.hl;have l3:=ag.h0;have l4:=ag.eq;have l5:=ag.be;have l6:=ag.rg;have l7:=ag.bd.2.2.2;have bz:A.hi=s.hi:=by rw[←ao];unfold CS.tell;split<;>(try split)<;>rfl
  have aN:A.kn=s.kn:=by rw[←ao];unfold CS.tell;split<;>(try split)<;>rfl
  rw[N,W]at l1 l2;have aW:i<A.kn.length:=by rw[ax.out.ll.2];exact aP
  obtain⟨gk,cW,aI,ck,df,bu⟩:=ax.out.ones (k:=10) (by decide) (show 0<A.kn.length by omega);have xk:=bu i (I T A.kn[i]) (by show(A.kn.map (I T))[i]?=_;rw[List.getElem?_map,List.getElem?_eq_getElem aW];rfl);have cc:rN hs A 10=A.kn.length:=rfl;rw[cc]at ck;have ak:=ax.out.row 10 (by decide);rw[aI]at ak;obtain⟨cZ,aD⟩:=eT ak (g:=gk) rfl;have cH:w3.frozen? ⟨gk,i,Z⟩=false:=by simp[World.frozen?,aD]
  have bB:s.kn.getD i 0=A.kn[i]:=by rw[List.getD_eq_getElem?_getD,←aN,List.getElem?_eq_getElem aW];rfl
  rw[bB]at l1;have cG:decide ((rc.length:Int)<A.kn[i])=false:=by simp;omega
  have bZ:(0:Int)<=(i:Int)/\(i:Int)<(A.kn.length:Int):=by omega
  obtain⟨D,C⟩:∃y,({A with kn:=A.kn.set i (rc.length:Int)}:CS)=y:=⟨_,rfl⟩;obtain⟨p1,p2,p3⟩:=dP.kz (s':=D) (k:=10) (by decide) ax aI i (I T (rc.length:Int)) (by rw[←C]) (by rw[←C]) (by rw[←C];simp) (by intro j hj aX;rw[←C];simp only[eO,List.mem_cons,List.mem_nil_iff,or_false]at hj;rcases hj with rfl|rfl|rfl|rfl|rfl|rfl|rfl|rfl|rfl|rfl<;>first|exact⟨rfl,rfl⟩|exact absurd rfl aX) (by rw[←C];show(A.kn.set i _).length=_;simp[rN]) (by rw[←C];show(A.kn.set i (rc.length:Int)).map (I T)=(A.kn.map (I T)).set i _;rw[List.map_set])
  have cz:=dA p1;have cr:Hid (Below base w (w3.setCell ⟨gk,i,Z⟩ (I T (rc.length:Int)))):=c2.out.trans p2;have ct:Hid ((w3.setCell ⟨gk,i,Z⟩ (I T (rc.length:Int))).ownsRow ay 66 3 (J ra rc.length a6) rc.length (rc.flatMap eE.cells)):=by rw[←bX];exact dO bt (fun g U=>p3.block g (fun f=>bK g U 10 (by decide) (by rw[aI,f];rfl)))
  have cn:=dA aN;have cU:=dA bz;have L4:=dA l4;have L5:=dA l5;have L6:=dA l6;clear bu ak bB p1 p2 p3 ax c2 bt aD aI aN bz l1 l4 l5 l6 ae a0;go_upto_region 11 with fail;generalize w3.setCell ⟨gk,i,Z⟩ (I T (rc.length:Int))=W4 at*;clear cH cG bZ ck xk bM;have aq:D.hi=s.hi:=by rw[←C];exact cU
  obtain⟨H,hH⟩:∃y,s.hi=y:=⟨_,rfl⟩;rw[hH]at l2 l3 l7 aq;have ab:=dA aq;have cP:({D with hi:=H++(rc.take 0).drop H.length}:CS)=D:=by simp;rw[←ab.out]
  clear aq;go_loopw [7] (fun s7 wr=>∃k:Nat,k<=rc.length/\s7=I T (k:Int)/\(∃vv,dP wr Wc base t vv true hs {D with hi:=H++(rc.take k).drop H.length}/\∀g,(J ra rc.length a6).ownBlock=some g->(vv 9).ownBlock≠some g)/\wr.ownsRow ay 66 3 (J ra rc.length a6) rc.length (rc.flatMap eE.cells)/\Below base w wr) (fun s7 wr=>rc.length - (intOf s7).toNat);case atStart=>exact⟨0,by omega,rfl,⟨v2,by rw[cP];exact cz,fun g U=>bK g U 9 (by decide)⟩,ct,cr⟩
  case round=>
  obtain⟨k,aN,rfl,⟨vv,l,b8⟩,aU,bh⟩:=hrel;have l4:∀k (h1:k<rc.length) (h2:k<H.length),rc[k]=H[k]:=by intro k h1 h2;have f:=L4.out k (by rw[N,W];exact h1) (by rw[hH];exact h2);simp only[N,W,hH]at f;exact f
  have l5:∀(h1:H.length<rc.length),qM (rc[H.length-1]'(by omega)) rc[H.length]=true:=by intro h1;have f:=L5.out (by rw[N,W,hH];exact h1);simp only[N,W,hH]at f;exact f
  have l6:∀k (h1:k<rc.length),(0<=rc[k].S/\rc[k].S<=31)/\(0<=rc[k].E/\rc[k].E<=10000000000000)/\(1<=k->1<=rc[k].P/\rc[k].P<=5):=by intro k h1;have f:=L6.out k (by rw[N,W];exact h1);simp only[N,W]at f;exact f
  have bH:=dA b8;have ai:=dA aU;have aE:=dA bh;by_cases aa:k<rc.length;case neg=>
   have bA:k=rc.length:=by omega
   have b7:rc.take k=rc:=List.take_of_length_le (by omega);rw[b7]at l;have al:=dA l;have bM:decide ((k:Int)<(rc.length:Int))=false:=by simp;omega
   have cK:Hid ({D with hi:=H++rc.drop H.length}=s.look i):=by unfold Hid CS.look;rw[N,W,hH,←C,cn.out,←ao]
   clear l4 l5 l6 b8 aU bh l;go_wp2;refine bodyPost_end (v:=.tuple #[]) (by simp[results,results50,go_sem]) rfl ?_;rw[←cK.out];exact⟨rfl,⟨_,al⟩,aE⟩
  have d5:k<=H.length:=by omega
  have b7:(rc.take k).drop H.length=[]:=List.drop_eq_nil_of_le (by rw[List.length_take];omega);rw[b7,List.append_nil]at l;obtain⟨x,af⟩:∃y,rc[k]=y:=⟨_,rfl⟩;obtain⟨b,d2,er,bq,X⟩:=(eY.gq aU).at (by omega);cases er;have cg:decide ((k:Int)<(rc.length:Int))=true:=by simp;omega
  have cY:(0:Int)<=(k:Int)/\(k:Int)<(rc.length:Int):=by omega
  have bD:({D with hi:=H}:CS)=D:=by rw[←ab.out]
  have a7:=l.cell (k:=9) (by decide);obtain⟨a9,c9,aT⟩:=eB (l.row 9 (by decide));rw[aT]at a7;have bP:rN hs {D with hi:=H} 9=H.length:=rfl;rw[bP]at a7;have al:=dA l;clear X b8 aU bh l aT bP;by_cases c3:k=H.length;case neg=>
   have br:((k:Int)==(H.length:Int))=false:=by simp;omega
   obtain⟨HQ,n⟩:∃y,y=H:=⟨_,rfl⟩;have aF:HQ=H++(rc.take (k+1)).drop H.length:=by rw[n,List.drop_eq_nil_of_le (by rw[List.length_take];omega),List.append_nil]
   have b4:k<HQ.length:=by rw[n];omega
   have bg:HQ[k]=x:=by subst n;rw[←l4 k aa (by omega)];exact af
   have ac:Hid (dP wr Wc base t vv true hs {D with hi:=HQ}):=by rw[n];exact al
   have O:=ai;have bb:=aE;have an:=bH.out;have b6:=dA aF;have d3:((k:Int)==(H.length:Int))=false:=br;clear al ai aE l4 l5 l6 aF n br;obtain⟨Wq,cm⟩:∃y,y=wr:=⟨_,rfl⟩;subst cm;obtain⟨gh,aC,cA,ad,cy,aB⟩:=ac.out.ones (k:=9) (by decide) (show 0<HQ.length by omega);have aY:rN hs {D with hi:=HQ} 9=HQ.length:=rfl;rw[aY]at ad;have a8:Wq.rangeAt b (k*3) [I T x.E,I T x.P,I T x.S]:=oZ (fun j u o=>by obtain⟨g9,c9,e9,_,l⟩:=(eY.gq O).at (by omega);cases e9;exact l j u o) k aa x af
   have au:Wq.rangeAt gh (k*3) [I T x.E,I T x.P,I T x.S]:=oZ aB k b4 x bg;have aj:=dA a8;have bm:=dA au;have bp:=dA ad;have bR:(0:Int)<=(k:Int)/\(k:Int)<(HQ.length:Int):=by omega
   clear a8 au ad aB;go_upto_region 17 with fail;(try clear a7);go_cut [124] (fun s124 wx=>s124=.bool false/\Below Wq.heap.size Wq wx);case first=>refine eR (S:=fun w'=>w'=Wq.drew) (fun _=>?_) (hS:=rfl);refine dB 0 ?_;refine dB 1 ?_;refine dB 2 (v:=P0 (Y ⟨b,k*3,Z⟩)) ?_ (hy:=fun w c=>by go_simp);refine iV 3 b (k*3) [I T x.E,I T x.P,I T x.S] ?_ (fun w c=>by rw[c];exact aj);refine dB 4 ?_;refine dB 5 ?_;refine dB 6 ?_;refine dB 7 (v:=J (Y ⟨gh,0,Z⟩) HQ.length aC) ?_ (hy:=fun w c=>by rw[c];have f:=bp.out;go_simp);refine dB 8 ?_;refine dB 9 (v:=P0 (Y ⟨gh,k*3,Z⟩)) ?_ (hy:=fun w c=>by go_simp);refine iV 10 gh (k*3) [I T x.E,I T x.P,I T x.S] ?_ (fun w c=>by rw[c];exact bm);refine dB 11 (v:=.bool false) ?_ (hy:=fun w c=>by have f:=C1 x.E x.P x.S x.E x.P x.S w;simp at f;first|(go_simp;done)|(go_simp;rw[f];rfl)|(go_simp;simp[f];done)|(simp[execOp];go_simp;rw[f]));refine dn ?_;go_wp2_with fail;go_meet;exact⟨rfl,b_.drew⟩
   case rest=>
   obtain⟨rfl,Q⟩:=hcut;go_wp2_with fail;go_roundw;case rel=>exact⟨k+1,by omega,rfl,⟨_,by have f:=ac.out.later Q;rw[←b6.out];exact f,an⟩,dO O (fun g U=>Q.block g (qA O U)),bb.out.trans (Q.mono ac.out.jd)⟩
   case measure=>simp[intOf];omega
  have bA:((k:Int)==(H.length:Int))=true:=by simp;omega
  have ba:=l5 (by omega);have aM:1<=k:=by omega
  have bs:k-1<rc.length:=Nat.lt_of_le_of_lt (Nat.sub_le k 1) aa;obtain⟨x0,bj⟩:∃y,rc[k-1]'(bs)=y:=⟨_,rfl⟩;have aV:qM x0 x=true:=by
   have e1:rc[H.length-1]'(by omega)=x0:=by rw[←bj];congr 1;omega
   have e2:rc[H.length]'(by omega)=x:=by rw[←af];congr 1;omega
   rw[e1,e2]at ba;exact ba
  have r0:=l6 (k-1) (by omega);have r1:=l6 k aa;rw[bj]at r0;rw[af]at r1;have bT:=dA aV;obtain⟨M,co⟩:∃y,y=wr:=⟨_,rfl⟩;subst co;have am:Hid (dP M Wc base t vv true hs D):=by rw[←bD];exact al
  have aG:=dA c3;clear l4 l5 l6 ba aV al bD c3;go_upto_region 14 with fail;clear a7 bA cg;have bw:M.rangeAt b ((k-1)*3) [I T x0.E,I T x0.P,I T x0.S]:=oZ (fun j u o=>by obtain⟨g9,c9,e9,_,l⟩:=(eY.gq ai).at (by omega);cases e9;exact l j u o) (k-1) (by omega) x0 bj
  have a8:M.rangeAt b (k*3) [I T x.E,I T x.P,I T x.S]:=oZ (fun j u o=>by obtain⟨g9,c9,e9,_,l⟩:=(eY.gq ai).at (by omega);cases e9;exact l j u o) k aa x af
  have bI:=dA bw;have aj:=dA a8;clear bw a8;have ca:rN hs D 9<=100000000:=by show D.hi.length<=_;rw[ab.out];exact l7
  have cB:=am.out.cell (k:=9) (by decide);have V:Below M.heap.size M (M.alloc (G #[I T x.E,I T x.P,I T x.S] 66)).drew:=(a_ _ _).drew;have b5:base<=(M.alloc (G #[I T x.E,I T x.P,I T x.S] 66)).drew.heap.size:=Nat.le_trans am.out.jd V.size;have aR:=dA (am.out.later V);have cu:(M.alloc (G #[I T x.E,I T x.P,I T x.S] 66)).drew.cell? ⟨Wc,9,Z⟩=Y (vv 9):=aR.out.cell (k:=9) (by decide);have mv:∀W6:World,W6.heap[b]?=M.heap[b]?->W6.rangeAt b (k*3) [I T x.E,I T x.P,I T x.S]:=fun W6 e j u o=>(World.cell?_of_block (a:=⟨b,k*3+j,Z⟩) e).trans (aj.out j u o);have b3:M.drew.rangeAt b (k*3) [I T x.E,I T x.P,I T x.S]:=mv _ rfl;have aL:(M.alloc (G #[I T x.E,I T x.P,I T x.S] 66)).drew.rangeAt b (k*3) [I T x.E,I T x.P,I T x.S]:=mv _ (V.block b bq);have bk:(M.alloc (G #[I T x.E,I T x.P,I T x.S] 66)).drew.ownsRow base 66 3 (vv 9) (rN hs D 9) (rX hs D 9):=aR.out.row 9 (by decide);have bi:∀j u,[I T x.E,I T x.P,I T x.S][j]?=Y u->(M.alloc (G #[I T x.E,I T x.P,I T x.S] 66)).drew.cell? ((⟨M.heap.size,0,Z⟩:Addr).add j)=Y u:=by intro j u o;rw[Go.WideShapes.add_plain];refine(World.cell?_alloc_at _ _ _ _ (by simp)).trans ?_;simpa using o
  have bN:b≠Wc:=fun f=>by obtain⟨c7,h8⟩:=eT ai (g:=b) rfl;rw[f,am.out.blk.blk]at h8;simp at h8
  have c8:(vv 9).ownBlock≠some b:=bH.out b rfl;have HP:Hid (∀v' w3,w3.ownsRow base 66 3 v' (rN hs D 9+1) (rX hs D 9++[I T x.E,I T x.P,I T x.S])->(M.alloc (G #[I T x.E,I T x.P,I T x.S] 66)).drew.grownBy w3 (vv 9).ownBlock->(∃g',v'.ownBlock=Y g'/\((vv 9).ownBlock=Y g'∨(M.alloc (G #[I T x.E,I T x.P,I T x.S] 66)).drew.heap.size<=g'/\(M.alloc (G #[I T x.E,I T x.P,I T x.S] 66)).drew.grownBy w3 none))->(w3.cell? ⟨Wc,9,Z⟩=Y (vv 9)/\w3.frozen? ⟨Wc,9,Z⟩=false/\(w3.rangeAt b (k*3) [I T x.E,I T x.P,I T x.S]/\(w3.setCell ⟨Wc,9,Z⟩ v').rangeAt b (k*3) [I T x.E,I T x.P,I T x.S])/\dP (w3.setCell ⟨Wc,9,Z⟩ v') Wc base t (gD vv 9 v') true hs {D with hi:=H++[x]}/\(v'.ownBlock≠some b)/\(w3.setCell ⟨Wc,9,Z⟩ v').heap[b]?=M.heap[b]?/\Below base w (w3.setCell ⟨Wc,9,Z⟩ v')/\M.heap.size<=(w3.setCell ⟨Wc,9,Z⟩ v').heap.size)):=by
   intro v' w3 ho U F;obtain⟨a1,a2,a3,a4,a5⟩:=dP.push (s':={D with hi:=H++[x]}) (k:=9) (m:=1) (by decide) aR ho U F rfl rfl ⟨rfl,rfl⟩ (by intro j hj aX;simp only[eO,List.mem_cons,List.mem_nil_iff,or_false]at hj;rcases hj with rfl|rfl|rfl|rfl|rfl|rfl|rfl|rfl|rfl|rfl<;>first|exact⟨rfl,rfl⟩|exact absurd rfl aX) (by show(H++[x]).length=D.hi.length+1;rw[ab.out];simp) (by show(H++[x]).flatMap eE.cells=D.hi.flatMap eE.cells++_;rw[ab.out];simp[eE.cells])
   have e1:w3.heap[b]?=M.heap[b]?:=(U.block b (Nat.lt_of_lt_of_le bq V.size) (fun f=>c8 f.symm)).trans (V.block b bq);have e2:(w3.setCell ⟨Wc,9,Z⟩ v').heap[b]?=M.heap[b]?:=((dH.setCell w3 ⟨Wc,9,Z⟩ v').block b bN).trans e1;refine⟨a1,a2,⟨mv _ e1,mv _ e2⟩,a3,fun f=>?_,e2,aE.out.trans ((V.mono am.out.jd).trans a4),Nat.le_trans V.size a5.size⟩;obtain⟨g',b1,b2⟩:=F;rw[b1]at f;have h8:g'=b:=by simpa using f
   subst h8;rcases b2 with b2|⟨b2,_⟩;·exact c8 b2
   ·have:=V.size;omega
  go_cut [92] (fun sx wx=>∃v',dP wx Wc base t (gD vv 9 v') true hs {D with hi:=H++[x]}/\(v'.ownBlock≠some b)/\wx.heap[b]?=M.heap[b]?/\Below base w wx/\M.heap.size<=wx.heap.size);case first=>
   refine eR (S:=fun w'=>w'.rangeAt b (k*3) [I T x.E,I T x.P,I T x.S]) (fun _=>?_) (hS:=b3);refine dB 0 ?_;refine dB 1 ?_;refine dB 2 ?_;refine dB 3 ?_;refine dB 5 ?_;refine dB 6 ?_;refine dB 7 (v:=P0 (Y ⟨b,k*3,Z⟩)) ?_ (hy:=fun w c=>by go_simp);refine iV 8 b (k*3) [I T x.E,I T x.P,I T x.S] ?_ (fun w c=>c);refine iY [4,9] ?_;refine .cons rfl (fun K B=>?_) ?_;·(try go_simp);refine k1 B (fun _=>?_) b3;clear B K;refine dE 9 fun K B=>?_;(try go_simp);refine k1 B (fun _=>?_) aL;clear B K;refine dE 10 fun K B=>?_;refine iQ rfl (.tmp 84) (.tmp 89) 23 rfl base 66 i0 (.agg #[I T 0,I T 0,I T 0]) 3 24 underlying23 bJ bV c4 bE rfl (by decide) (vv 9) (rN hs D 9) (rX hs D 9) (by simp[Act.eval]) bk ⟨M.heap.size,0,Z⟩ 1 1 [I T x.E,I T x.P,I T x.S] (by omega) (by simp[Act.eval]) rfl bi (by intro u o;simp at o;rcases o with rfl|rfl|rfl<;>rfl) (by unfold maxLen;omega) (by omega) b5 ?_;intro v' w3 ah aw F;obtain⟨cR,cw,rfl⟩:=eB ah;obtain⟨cC,cs,C,b9⟩:=HP.out _ w3 ah aw F;clear ah aw F;refine k1 B (fun _=>?_) C.1;clear B K;refine dB 11 ?_;refine dB 12 ?_;refine dE 13 fun K B=>?_;(try go_simp);refine k1 B (fun _=>?_) C.2;clear B K;refine dn ?_;go_wp2_with fail;go_meet;exact⟨_,b9⟩
   refine .cons rfl (fun K B=>?_) .nil;(try go_simp);refine k1 B (fun _=>?_) aL;clear B K;refine dE 4 fun K B=>?_;(try go_simp);refine k1 B (fun _=>?_) aL;clear B K;refine dE 10 fun K B=>?_;refine iQ rfl (.tmp 84) (.tmp 89) 23 rfl base 66 i0 (.agg #[I T 0,I T 0,I T 0]) 3 24 underlying23 bJ bV c4 bE rfl (by decide) (vv 9) (rN hs D 9) (rX hs D 9) (by simp[Act.eval]) bk ⟨M.heap.size,0,Z⟩ 1 1 [I T x.E,I T x.P,I T x.S] (by omega) (by simp[Act.eval]) rfl bi (by intro u o;simp at o;rcases o with rfl|rfl|rfl<;>rfl) (by unfold maxLen;omega) (by omega) b5 ?_;intro v' w3 ah aw F;obtain⟨cR,cw,rfl⟩:=eB ah;obtain⟨cC,cs,C,b9⟩:=HP.out _ w3 ah aw F;clear ah aw F;refine k1 B (fun _=>?_) C.1;clear B K;refine dB 11 ?_;refine dB 12 ?_;refine dE 13 fun K B=>?_;(try go_simp);refine k1 B (fun _=>?_) C.2;clear B K;refine dn ?_;go_wp2_with fail;go_meet;exact⟨_,b9⟩
  case rest=>
  obtain⟨cd,a7,aT,aO,Q,cS⟩:=hcut;clear HP bi bk aL b3 cu aR b5 V cB ca mv;obtain⟨W6,cv⟩:∃y,y=wc:=⟨_,rfl⟩;subst cv;have aZ:=dA a7;have bv:=dA Q;have O:Hid (W6.ownsRow ay 66 3 (J (Y ⟨b,0,Z⟩) rc.length a6) rc.length (rc.flatMap eE.cells)):=dO ai (fun g U=>by have f:b=g:=(by simpa[Value.ownBlock] using U);rw[←f];exact aO);have av:Hid (W6.rangeAt b ((k-1)*3) [I T x0.E,I T x0.P,I T x0.S]):=fun j u o=>(World.cell?_of_block (a:=⟨b,(k-1)*3+j,Z⟩) aO).trans (bI.out j u o);have aK:Hid (W6.rangeAt b (k*3) [I T x.E,I T x.P,I T x.S]):=fun j u o=>(World.cell?_of_block (a:=⟨b,k*3+j,Z⟩) aO).trans (aj.out j u o);have aJ:b<W6.heap.size:=by omega
  clear a7 Q aO cS bI aj am ai aE;go_upto_region 15 with fail;have cx:IntKind.i64.wrap ((k:Int) - 1)=((k-1:Nat):Int):=by rw[IntWalk.i64_in _ (by omega)];omega
  have d1:(0:Int)<=((k-1:Nat):Int)/\((k-1:Nat):Int)<(rc.length:Int):=by omega
  go_cut [8] (fun s8 wx=>s8=.bool true/\Below W6.heap.size W6 wx);case first=>refine eR (S:=fun w'=>w'.rangeAt b ((k-1)*3) [I T x0.E,I T x0.P,I T x0.S]/\w'.rangeAt b (k*3) [I T x.E,I T x.P,I T x.S]) (fun _=>?_) (hS:=⟨av,aK⟩);refine dB 0 ?_;refine dB 1 ?_;refine dB 2 (v:=I T ((k-1:Nat):Int)) ?_ (hy:=fun w c=>by first|(go_simp;done)|(go_simp;rw[cx]));refine dB 3 (v:=P0 (Y ⟨b,(k-1)*3,Z⟩)) ?_ (hy:=fun w c=>by go_simp);refine iV 4 b ((k-1)*3) [I T x0.E,I T x0.P,I T x0.S] ?_ (fun w c=>c.1);refine dB 5 ?_;refine dB 6 ?_;refine dB 7 (v:=P0 (Y ⟨b,k*3,Z⟩)) ?_ (hy:=fun w c=>by go_simp);refine iV 8 b (k*3) [I T x.E,I T x.P,I T x.S] ?_ (fun w c=>c.2);refine dE 9 fun K B=>?_;(try go_simp);go_at_call 84;refine(N7 x0 x _ r0.1 r1.1 r0.2.1 (r1.2.2 aM)).mono ?_;rintro q w7 ⟨rfl,cT⟩;rw[bT.out];have R:Below W6.heap.size W6 w7:=b_.drew.trans cT;refine k1 B (fun _=>?_) ⟨fun j u o=>(R.cell (p:=⟨b,(k-1)*3+j,Z⟩) aJ).trans (av.out j u o),fun j u o=>(R.cell (p:=⟨b,k*3+j,Z⟩) aJ).trans (aK.out j u o)⟩;clear B K;refine dE 10 fun K B=>?_;(try go_simp);refine k1 B (fun _=>?_) ⟨fun j u o=>(R.cell (p:=⟨b,(k-1)*3+j,Z⟩) aJ).trans (av.out j u o),fun j u o=>(R.cell (p:=⟨b,k*3+j,Z⟩) aJ).trans (aK.out j u o)⟩;clear B K;refine dn ?_;go_wp2_with fail;go_meet;exact⟨rfl,R⟩
  case rest=>
  obtain⟨rfl,R⟩:=hcut;obtain⟨W7,cF⟩:∃y,y=wc:=⟨_,rfl⟩;subst cF;have ar:=dA (aZ.out.later R);have bF:Hid (Below base w W7):=bv.out.trans (R.mono aZ.out.jd);have bY:Hid (W7.ownsRow ay 66 3 (J (Y ⟨b,0,Z⟩) rc.length a6) rc.length (rc.flatMap eE.cells)):=dO O (fun g U=>R.block g (qA O U));have c11:=ar.out.blk.cell 11;have cV:=ar.out.blk.free 11;simp at c11;have c5:=ar.out.blk.set 11 (bool true);obtain⟨m1,m2⟩:=ar.out.mark (f':=true) (dH.setCell W7 ⟨Wc,11,Z⟩ (bool true)) c5;have ac:=dA m1;have bb:Hid (Below base w (W7.setCell ⟨Wc,11,Z⟩ (bool true))):=bF.out.trans m2;have cO:Hid ((W7.setCell ⟨Wc,11,Z⟩ (bool true)).ownsRow ay 66 3 (J (Y ⟨b,0,Z⟩) rc.length a6) rc.length (rc.flatMap eE.cells)):=dO bY (fun g U=>by have f:b=g:=(by simpa[Value.ownBlock] using U);rw[←f];exact(dH.setCell W7 ⟨Wc,11,Z⟩ (bool true)).block b bN);clear aZ bv O av aK R c5 m1 m2 ar bF bY;have an:∀g,(J (Y ⟨b,0,Z⟩) rc.length a6).ownBlock=some g->((gD vv 9 cd) 9).ownBlock≠some g:=by
   intro g U;have f:b=g:=by simpa[Value.ownBlock] using U
   rw[kW,←f];exact aT
  have cE:=dA an;clear an;go_upto_region 17 with fail;generalize W7.setCell ⟨Wc,11,Z⟩ (bool true)=Wq at*;clear c11 cV;obtain⟨HQ,n⟩:∃y,y=H++[x]:=⟨_,rfl⟩;have b4:k<HQ.length:=by rw[n,aG.out];simp
  have bg:HQ[k]=x:=by subst n;simp[aG.out]
  have aF:HQ=H++(rc.take (k+1)).drop H.length:=by rw[n,List.take_succ_eq_append_getElem aa,af,List.drop_append];rw[List.drop_eq_nil_of_le (by rw[List.length_take];have:=aG.out;omega),List.length_take,List.nil_append];congr 1;rw[show H.length - min k rc.length=0 by have:=aG.out;omega];rfl
  have b6:=dA aF;rw[←n]at ac;have O:=cO;have an:=cE.out;have d8:0<HQ.length:=by omega
  clear aF n;obtain⟨gh,aC,cA,ad,cy,aB⟩:=ac.out.ones (k:=9) (by decide) (show 0<HQ.length by omega);have aY:rN hs {D with hi:=HQ} 9=HQ.length:=rfl;rw[aY]at ad;have a8:Wq.rangeAt b (k*3) [I T x.E,I T x.P,I T x.S]:=oZ (fun j u o=>by obtain⟨g9,c9,e9,_,l⟩:=(eY.gq O).at (by omega);cases e9;exact l j u o) k aa x af
  have au:Wq.rangeAt gh (k*3) [I T x.E,I T x.P,I T x.S]:=oZ aB k b4 x bg;have aj:=dA a8;have bm:=dA au;have bp:=dA ad;have bR:(0:Int)<=(k:Int)/\(k:Int)<(HQ.length:Int):=by omega
  clear a8 au ad aB;(try clear a7);go_cut [124] (fun s124 wx=>s124=.bool false/\Below Wq.heap.size Wq wx);case first=>refine eR (S:=fun w'=>w'=Wq.drew) (fun _=>?_) (hS:=rfl);refine dB 0 ?_;refine dB 1 ?_;refine dB 2 (v:=P0 (Y ⟨b,k*3,Z⟩)) ?_ (hy:=fun w c=>by go_simp);refine iV 3 b (k*3) [I T x.E,I T x.P,I T x.S] ?_ (fun w c=>by rw[c];exact aj);refine dB 4 ?_;refine dB 5 ?_;refine dB 6 ?_;refine dB 7 (v:=J (Y ⟨gh,0,Z⟩) HQ.length aC) ?_ (hy:=fun w c=>by rw[c];have f:=bp.out;go_simp);refine dB 8 ?_;refine dB 9 (v:=P0 (Y ⟨gh,k*3,Z⟩)) ?_ (hy:=fun w c=>by go_simp);refine iV 10 gh (k*3) [I T x.E,I T x.P,I T x.S] ?_ (fun w c=>by rw[c];exact bm);refine dB 11 (v:=.bool false) ?_ (hy:=fun w c=>by have f:=C1 x.E x.P x.S x.E x.P x.S w;simp at f;first|(go_simp;done)|(go_simp;rw[f];rfl)|(go_simp;simp[f];done)|(simp[execOp];go_simp;rw[f]));refine dn ?_;go_wp2_with fail;go_meet;exact⟨rfl,b_.drew⟩
  case rest=>
  obtain⟨rfl,Q⟩:=hcut;go_wp2_with fail;go_roundw;case rel=>exact⟨k+1,by omega,rfl,⟨_,by have f:=ac.out.later Q;rw[←b6.out];exact f,an⟩,dO O (fun g U=>Q.block g (qA O U)),bb.out.trans (Q.mono ac.out.jd)⟩
  case measure=>simp[intOf];omega
def CS.put(s:CS)(i:Nat)(r:AG.Nd×List (Int×AG.Ms)):CS:={s with ns:=s.ns.set i r.1,net:=s.net++r.2}
def Qt(hs:List Ho):Prop:=∀h∈hs,h.left = -1
structure pJ(s:CS)(i:Nat)(f:Bool->AG.Nd×List (Int×AG.Ms)):Prop where
 id:∀ok,(f ok).1.id=(s.nd i).id/\(f ok).1.nodes=(s.nd i).nodes/\(f ok).1.nb=(s.nd i).nb
 ln:∀ok,(f ok).2.length<=100
theorem xI(z:Int×AG.Ms):(eM z).length=2:=rfl
theorem dP.did{w w':World}{Wc base t:Nat}{v:Nat->Value}{f:Bool}{hs:List Ho}{s:CS}{i:Nat}(h:dP w Wc base t v f hs s)(hi:i<hs.length)(b:i<s.ns.length){n:Int}{F:AG.Nd×List (Int×AG.Ms)}{ok:Bool}{l:Value}(o:i2 hs[i].Kn hs[i].P t hs[i].C hs[i].left n F ok l w w')(c:F.1.id=s.ns[i].id/\F.1.nodes=s.ns[i].nodes/\F.1.nb=s.ns[i].nb):dW w' w.heap.size l (fP F.2)/\eJ n F.2/\∃hs',hs'.length=hs.length/\dP w' Wc base (t+1) v f hs' {s with ns:=s.ns.set i F.1}/\Below base w w'/\((Qt hs->ok=true/\Qt hs')/\eJ n F.2):=by
 obtain⟨q,d,C',y,k,p,u⟩:=o;obtain⟨a1,r⟩:=h.call (t':=t+1) hi b (by omega) k p c;refine⟨q,d,_,by simp,a1,r,fun e=>?_,d⟩;obtain⟨g,j⟩:=u (e _ (List.getElem_mem hi));refine⟨g,fun x m=>?_⟩;rcases List.mem_or_eq_of_mem_set m with a|a;·exact e x a
 ·rw[a];exact j
theorem B7(hLO:jA)(hUO:i9)(hSO:eW)(hBW:eZ)(hBS:fA)(Wc base t:Nat)(hs:List Ho)(s:CS)(k i:Nat)(m:AG.Ms)(w:World)(h:CA w Wc base t true hs s)(hk:k<s.net.length)(hz:s.net[k]=((i:Int),m))(hi:i<s.ns.length)(hm:Rl m)(ht:t+2<=1000000)(aH:s.net.length<=50000000)(a8:pJ s i (fun ok=>(s.nd i).receive m ok))(a5:∀ok,pI (s.put i ((s.nd i).receive m ok)) i):Calls pG 57 #[P0 (Y ⟨Wc,0,Z⟩),I T (k:Int)] w fun q w'=>q=.returned (.tuple #[])/\∃ok hs',hs'.length=hs.length/\CA w' Wc base (t+1) true hs' ((s.put i ((s.nd i).receive m ok)).look i)/\Below base w w'/\((Qt hs->ok=true/\Qt hs')/\eJ (s.nd i).nodes ((s.nd i).receive m ok).2):=by
 obtain⟨v,h⟩:=h;have x:i<hs.length:=by rw[h.hl];exact hi
 have aJ:=h.n5;have n:s.nd i=s.ns[i]:=CS.ku hi;obtain⟨g5,aI,aM,c5,aP,a9⟩:=h.ones (k:=5) (by decide) (show 0<s.net.length by omega);have aj:rN hs s 5=s.net.length:=rfl;rw[aj]at c5;have ag:w.rangeAt g5 (k*2) [I T (i:Int),.string (dF m.pk)]:=by
  intro j u hu;have hj:j<2:=by have:=(List.getElem?_eq_some_iff.1 hu).1;simpa using this
  rw[a9 _ _ (kO eM 2 xI s.net k hk j hj),hz];show Y ([I T (i:Int),.string (dF m.pk)].getD j undef)=_;rw[List.getD_eq_getElem?_getD,hu];rfl
 have aw:=dA ag;have O:=a_ w (G #[I T (i:Int),.string (dF m.pk)] 174);have HX:=dA (dC.new w #[I T (i:Int),.string (dF m.pk)] 174);have HC:=dA (h.later O);have HB:Hid (Below base w (w.alloc (G #[I T (i:Int),.string (dF m.pk)] 174))):=O.mono h.jd;have aG:(0:Int)<=(k:Int)/\(k:Int)<(s.net.length:Int):=by omega
 have R:=dA a8;have a3:=dA a5;have HM:=dA hm;have a7:w.heap.size≠Wc:=by have:=h.blk.lt;omega
 have ac:¬hs[i].al w.heap.size:=fun c=>by have:=((h.host i x hi).lt _ c).2;omega
 have a4:∀j∈eO,(v j).ownBlock≠some w.heap.size:=fun j hj c=>by have:=((h.row j hj).lt _ c).2;omega
 clear h ag O a9 a8 a5 hm;go_enter func57,ntmps57;go_upto_region 1 with(refine wpList_load_mid rfl 174 _ rfl g5 (k*2) rfl [I T (i:Int),.string (dF m.pk)] _ aw underlying174 rfl (by kernel_rfl) ?_);generalize World.alloc _ _=W1 at*;clear c5;obtain⟨X,hX⟩:∃y,w.heap.size=y:=⟨_,rfl⟩;rw[hX]at HX a7 ac a4;obtain⟨z,o,ak,c0,av,a0⟩:=HC.out.ones (k:=0) (by decide) (show 0<hs.length by omega);have x0:=a0 i (P0 (Y ⟨hs[i].Kn,0,Z⟩)) (by show(hs.map _)[i]?=_;rw[List.getElem?_map,List.getElem?_eq_getElem x];rfl);have ap:rN hs s 0=hs.length:=rfl;rw[ap]at c0;have aO:(0:Int)<=(i:Int)/\(i:Int)<(hs.length:Int):=by omega
 clear a0 ak;have M:=fun w=>run_bytes_of_string (P:=pG) w 9 148 5 (dF m.pk) underlying9 underlying148 underlying5;have a6:=dA (⟨c0,x0⟩:W1.cell? ⟨Wc,0,Z⟩=Y (J (Y ⟨z,0,Z⟩) hs.length o)/\W1.cell? ⟨z,i,Z⟩=Y (P0 (Y ⟨hs[i].Kn,0,Z⟩)));refine eR (S:=fun w'=>w'.cell? ⟨Wc,0,Z⟩=Y (J (Y ⟨z,0,Z⟩) hs.length o)/\w'.cell? ⟨z,i,Z⟩=Y (P0 (Y ⟨hs[i].Kn,0,Z⟩))/\dC w' X #[I T (i:Int),.string (dF m.pk)] 174) (fun _=>?_) (hS:=⟨c0,x0,HX.out.drew⟩);clear c0 x0;refine dB 0 ?_;refine dB 1 ?_;refine dB 2 ?_;refine dB 3 (v:=J (Y ⟨z,0,Z⟩) hs.length o) ?_ (hy:=fun w d=>by have c:=d.1;go_simp);refine dB 4 ?_;refine dB 5 (v:=I T (i:Int)) ?_ (hy:=fun w d=>by have c:=d.2.2.cell 0;simp at c;go_simp);refine dB 6 (v:=P0 (Y ⟨z,i,Z⟩)) ?_ (hy:=fun w d=>by go_simp);refine dB 7 (v:=P0 (Y ⟨hs[i].Kn,0,Z⟩)) ?_ (hy:=fun w d=>by have c:=d.2.1;go_simp);refine dB 8 ?_;refine dB 9 (v:=.string (dF m.pk)) ?_ (hy:=fun w d=>by have c:=d.2.2.cell 1;simp at c;go_simp);refine dE 10 fun K L=>?_;(try go_simp);obtain⟨cp,ai⟩:∃y,grownCap W1.drew (dF m.pk).size 0 5=y:=⟨_,rfl⟩;have aD:=(wM (m:=⟨m.k,m.f,m.e,m.b,m.wa,m.p,m.s,m.q,m.bl,m.v,none,0,m.zs⟩) ⟨HM.out.1,HM.out.2.1⟩).1;have D:gG (W1.alloc (Obj.cells (bytesRow (dF m.pk) (grownCap W1.drew (dF m.pk).size 0 5)) 5 ((bytesRow (dF m.pk) (grownCap W1.drew (dF m.pk).size 0 5)).size,(bytesRow (dF m.pk) (grownCap W1.drew (dF m.pk).size 0 5)).size+1))).drew.drew (W1.heap.size+1) (J (Y ⟨W1.heap.size,0,Z⟩) (dF m.pk).size (grownCap W1.drew (dF m.pk).size 0 5)) (dF m.pk).data.toList:=by have c:=zL W1.drew (dF m.pk) (by rw[mU];have h8:m.pk.length<=171:=aD;unfold maxLen;omega) ((bytesRow (dF m.pk) (grownCap W1.drew (dF m.pk).size 0 5)).size,(bytesRow (dF m.pk) (grownCap W1.drew (dF m.pk).size 0 5)).size+1);simp at c;exact c
 have an:(W1.alloc (Obj.cells (bytesRow (dF m.pk) (grownCap W1.drew (dF m.pk).size 0 5)) 5 ((bytesRow (dF m.pk) (grownCap W1.drew (dF m.pk).size 0 5)).size,(bytesRow (dF m.pk) (grownCap W1.drew (dF m.pk).size 0 5)).size+1))).drew.drew.heap.size=W1.heap.size+1:=by simp
 have A:Below W1.heap.size W1 (W1.alloc (Obj.cells (bytesRow (dF m.pk) (grownCap W1.drew (dF m.pk).size 0 5)) 5 ((bytesRow (dF m.pk) (grownCap W1.drew (dF m.pk).size 0 5)).size,(bytesRow (dF m.pk) (grownCap W1.drew (dF m.pk).size 0 5)).size+1))).drew.drew:=(a_ W1 _).drew.drew;rw[ai]at D A an⊢;clear M;generalize (World.alloc _ _).drew.drew=W5 at*;have r:=dA (HC.out.later A);have Q:=dA (HX.out.later A);have ad:z<W1.heap.size:=av;have aB:=HC.out.blk.lt;have s1:=(A.cell (p:=⟨Wc,0,Z⟩) aB).trans a6.out.1;have s2:=(A.cell (p:=⟨z,i,Z⟩) ad).trans a6.out.2;refine k1 L (fun _=>?_) ⟨s1,s2,Q⟩;clear L K;refine dE 11 fun K L=>?_;(try go_simp);have ay:=r.out.host i x hi;have aQ:hs[i].Kn<W1.heap.size:=(HC.out.host i x hi).blk.lt;have U:(dF m.pk).data.toList=m.pk:=yN m.pk;rw[U]at D;rw[n]at a3 R;go_at_call 91;refine(ay.receive hLO hUO hSO hBW hBS ht m HM _ ?_).mono ?_
 ·intro W hW;obtain⟨ao,az,e1,e2,e3,e4⟩:=D;refine⟨ao,az,e1,e2,e3,e4.imp id ?_⟩;rintro⟨g,off,e5,e6,e7⟩;have hg:g=W1.heap.size:=by rw[e5]at e1;simp at e1;omega
  refine⟨g,off,e5,?_,fun j hj=>(World.cell?_of_block (a:=⟨g,off+j,Z⟩) (hW.block g (by omega))).trans (e7 j hj)⟩;rw[hW.size];omega
 rintro q w6 ⟨l,ok,rfl,C⟩;have H:=R.out.id ok;rw[n]at H;obtain⟨d1,d2,hs',aa,E,a2,aF⟩:=r.out.did x hi C H;have B:dC w6 X #[I T (i:Int),.string (dF m.pk)] 174:=by obtain⟨_,_,C',l',_,hx,_⟩:=C;exact hx.blk Q ac
 have aL:=dA E;have ax:Hid (Below base w w6):=HB.out.trans ((A.mono HC.out.jd).trans a2);have ah:=dA B;have aN:=dA d1;have au:=dA d2;have t1:=E.cell (k:=0) (by decide);have V:v 0=J (Y ⟨z,0,Z⟩) hs.length o:=by have c:=r.out.cell (k:=0) (by decide);rw[s1]at c;simpa using c.symm
 rw[V]at t1;have t2:w6.cell? ⟨z,i,Z⟩=Y (P0 (Y ⟨hs[i].Kn,0,Z⟩)):=by obtain⟨_,_,C',l',_,hx,_⟩:=C;have c:=hx.kept.block z (by omega) (fun h8=>r.out.lg 0 (by decide) z (by rw[V];rfl) i x h8);exact(World.cell?_of_block (a:=⟨z,i,Z⟩) c).trans s2
 refine k1 L (fun _=>?_) ⟨t1,t2,B⟩;clear L K;refine dE 12 fun K L=>?_;(try go_simp);refine k1 L (fun _=>?_) ⟨t1,t2,B⟩;clear L K;refine dn ?_;have F:eJ (hs'.length:Int) ((s.nd i).receive m ok).2:=by
  have c:=(r.out.ids i hi).2.1;have h8:=au.out;rw[n];have h7:(hs'.length:Int)=s.ns[i].nodes:=by rw[c,aa,r.out.hl]
  rw[h7];exact h8
 have aK:=R.out.ln ok;have ab:=dA (vZ Wc base (t+1) true hs' _ l _ W5.heap.size w6 v E (by rw[n];exact d1) F (by show s.net.length+_<=_;rw[n];omega));clear C d1 d2 E a2 t1 t2 B s1 s2 D Q F;go_wp2_with fail;refine ab.out.mono ?_;rintro q w7 ⟨rfl,N,af,a1⟩;have aq:=dA (ah.out.same (a1.block X ah.out.lt (fun c=>c.elim a7 (a4 5 (by decide)))));have am:=aq.out.cell 0;simp at am;have e7:({({s with ns:=s.ns.set i (s.ns[i].receive m ok).1}:CS) with net:=s.net++(s.ns[i].receive m ok).2}:CS)=s.put i (s.ns[i].receive m ok):=rfl;have ae:CA w7 Wc base (t+1) true hs' (s.put i (s.ns[i].receive m ok)):=by rw[←e7];rw[n]at N;exact N
 have aE:=dA (B6 hLO hUO Wc base (t+1) hs' _ i w7 ae (by show i<(s.ns.set i _).length;simpa using hi) (by omega) (a3.out ok));have ar:=dA (ax.out.trans af);clear ab N af a1 e7 ae;go_wp2_with fail;refine aE.out.mono ?_;rintro q w8 ⟨rfl,aC,aA⟩;go_wp2_with fail;refine bodyPost_end (v:=.tuple #[]) (by simp[results,results57,go_sem]) rfl ?_;rw[n];exact⟨rfl,ok,hs',aa,aC,ar.out.trans aA,aF⟩
theorem B9(Wc base t:Nat)(f:Bool)(hs:List Ho)(s:CS)(k:Nat)(w:World)(h:CA w Wc base t f hs s)(hk:k<s.net.length)(ar:s.net.length<=100000000):Calls pG 58 #[P0 (Y ⟨Wc,0,Z⟩),I T (k:Int)] w fun q w'=>q=.returned (.tuple #[])/\CA w' Wc base t f hs {s with net:=s.net.take k++s.net.drop (k+1)}/\Below base w w':=by
 obtain⟨i0,W,X,a5,R⟩:=info_parts vY;obtain⟨v,h⟩:=h;obtain⟨g5,r,ak,c5,ao,a3⟩:=h.ones (k:=5) (by decide) (show 0<s.net.length by omega);have af:rN hs s 5=s.net.length:=rfl;rw[af]at c5;have ag:rX hs s 5=s.net.flatMap eM:=rfl;rw[ag]at a3;have aq:s.net.length<=r/\r<=maxLen:=by
  have F:=h.row 5 (by decide);rw[ak]at F;rcases F.2 with⟨N,_⟩|⟨g,c,av,e1,_,_,e4,e5,_⟩;·cases N
  ·cases e1;exact⟨e4,e5⟩
 have Q:=dA h;have ae:=dA a3;have ap:(0:Int)<=(k:Int)/\(k:Int)<=(r:Int):=by omega
 have V:∀l:List (Int×AG.Ms),(l.flatMap eM).length=l.length*2:=fun l=>uS eM 2 xI l;have a7:∀(l:List (Int×AG.Ms)) u,u∈l.flatMap eM->u.oneCell'=true:=by intro l u B;obtain⟨z,_,hz⟩:=List.mem_flatMap.1 B;simp[eM]at hz;rcases hz with rfl|rfl<;>rfl
 have a8:∀(j:Nat) (u:Value),((s.net.take k).flatMap eM)[j]?=Y u->(s.net.flatMap eM)[j]?=Y u:=by
  intro j u B;have e:s.net.flatMap eM=(s.net.take k).flatMap eM++(s.net.drop k).flatMap eM:=by rw[←List.flatMap_append,List.take_append_drop]
  have K:=(List.getElem?_eq_some_iff.1 B).1;rw[e,List.getElem?_append_left K];exact B
 have a9:∀(j:Nat) (u:Value),((s.net.drop (k+1)).flatMap eM)[j]?=Y u->(s.net.flatMap eM)[(k+1)*2+j]?=Y u:=by
  intro j u B;have e:s.net.flatMap eM=(s.net.take (k+1)).flatMap eM++(s.net.drop (k+1)).flatMap eM:=by rw[←List.flatMap_append,List.take_append_drop]
  have an:((s.net.take (k+1)).flatMap eM).length=(k+1)*2:=by rw[V,List.length_take,Nat.min_eq_left (by omega)]
  rw[e,List.getElem?_append_right (by omega),an,show(k+1)*2+j-(k+1)*2=j by omega];exact B
 have am:=Q.out.blk.lt;have a6:=dA V;have U:=dA a7;have ah:=dA a8;have ai:=dA a9;clear h a3 V a7 a8 a9;go_enter func58,ntmps58;go_wp2_with(at_builtin;go_loud (refine wpList_append_own _ rfl _ _ 60 rfl w.heap.size 174 i0 (.agg #[I T 0,.string ⟨#[]⟩]) 2 24 underlying60 W X a5 R rfl (by decide) (J Z 0 0) 0 [] rfl ?c0 ⟨g5,0,Z⟩ k r ((s.net.take k).flatMap eM) rfl ?c1 ?c2 ?c3 ?c4 ?c5 ?c6 ?_));case c0=>exact World.ownsRow_nil _ _ _ _
 case c1=>rw[a6.out,List.length_take,Nat.min_eq_left (by omega)]
 case c2=>intro j u B;rw[Go.WideShapes.add_plain];simpa using ae.out j u (ah.out j u B)
 case c3=>exact U.out _
 case c4=>unfold maxLen;omega
 case c5=>omega
 case c6=>exact Nat.le_refl _
 intro v1 w1 O H ay;obtain⟨a1,a0,rfl⟩:=eB O;have M:Below w.heap.size w w1:=⟨H.os,H.tape,H.output,H.size,fun g i=>H.block g i (by simp[Value.ownBlock])⟩;have az:=dA (Q.out.later M);have ax:=(M.cell (p:=⟨Wc,5,Z⟩) am).trans c5;have ab:Hid (∀(j:Nat) (u:Value),(s.net.flatMap eM)[j]?=Y u->w1.cell? ⟨g5,j,Z⟩=Y u):=fun j u B=>(M.cell (p:=⟨g5,j,Z⟩) ao).trans (ae.out j u B);have aa:=dA O;have d:=dA M;have ad:Hid (∀g,(J a1 k a0).ownBlock=some g->w.heap.size<=g):=fun g i=>(O.lt g i).1;have aw:IntKind.i64.wrap ((k:Int)+1)=(k:Int)+1:=IntWalk.i64_in _ (by omega);clear O H M c5;by_cases au:r=k+1
 ·have ac:s.net.drop (k+1)=[]:=List.drop_eq_nil_of_le (by omega);have aj:=dA ac;clear ac;go_wp2_with(at_builtin;go_loud (refine wpList_append_own _ rfl _ _ 60 rfl w.heap.size 174 i0 (.agg #[I T 0,.string ⟨#[]⟩]) 2 24 underlying60 W X a5 R rfl (by decide) (J a1 k a0) k ((s.net.take k).flatMap eM) (by simp[Act.eval]) aa ⟨g5,0,Z⟩ (s.net.length - (k+1)) 0 ((s.net.drop (k+1)).flatMap eM) (by simp[Act.eval]) ?c1 ?c2 ?c3 ?c4 ?c5 ?c6 ?_));case c1=>rw[a6.out,List.length_drop]
  case c2=>intro j u B;rw[aj.out]at B;simp at B
  case c3=>exact U.out _
  case c4=>unfold maxLen;omega
  case c5=>omega
  case c6=>exact d.out.size
  intro v2 w2 x m _;obtain⟨C,b,rfl⟩:=eB x;have a:Below w.heap.size w w2:=⟨m.os.trans d.out.os,m.tape.trans d.out.tape,m.output.trans d.out.output,Nat.le_trans d.out.size m.size,fun g i=>(m.block g (Nat.lt_of_lt_of_le i d.out.size) (fun F=>by have N:=(ad.out g F.symm);omega)).trans (d.out.block g i)⟩
  have hK:dK (fun g=>g=Wc∨(v 5).ownBlock=some g) w (w2.setCell ⟨Wc,5,Z⟩ (J C (k+(s.net.length - (k+1))) b)):=by have o:=dH.setCell w2 ⟨Wc,5,Z⟩ (J C (k+(s.net.length - (k+1))) b);exact⟨o.os.trans a.os,o.tape.trans a.tape,o.output.trans a.output,by rw[o.size];exact a.size,fun g i F=>(o.block g (fun N=>F (.inl N))).trans (a.block g i)⟩
  have y:dC w2 Wc (iW v s.nb f) 63:=Q.out.blk.later a;have a4:=y.cell 5;have al:=y.free 5;simp at a4;have D:=y.set 5 (J C (k+(s.net.length - (k+1))) b);rw[rA v s.nb f _ 5 (by decide)]at D;have E:∀g,(J C (k+(s.net.length - (k+1))) b).ownBlock=some g->w.heap.size<=g:=fun g i=>(x.lt g i).1;have n:(w2.setCell ⟨Wc,5,Z⟩ (J C (k+(s.net.length - (k+1))) b)).ownsRow base 174 2 (J C (k+(s.net.length - (k+1))) b) (k+(s.net.length - (k+1))) ((s.net.take k).flatMap eM++(s.net.drop (k+1)).flatMap eM):=dO (mW x Q.out.jd) (fun g i=>(dH.setCell w2 ⟨Wc,5,Z⟩ _).block g (fun F=>by have N:=E g i;have h7:g=Wc:=F;omega));have A:=dP.turn (k:=5) (v':=gD v 5 (J C (k+(s.net.length - (k+1))) b)) (f':=f) (s':={s with net:=s.net.take k++s.net.drop (k+1)}) (by decide) Q hK (fun j _ K=>nF K) D (by
   rw[kW];have e1:rN hs {s with net:=s.net.take k++s.net.drop (k+1)} 5=k+(s.net.length - (k+1)):=by show(s.net.take k++s.net.drop (k+1)).length=_;simp;omega
   have e2:rX hs {s with net:=s.net.take k++s.net.drop (k+1)} 5=(s.net.take k).flatMap eM++(s.net.drop (k+1)).flatMap eM:=by show(s.net.take k++s.net.drop (k+1)).flatMap eM=_;simp
   rw[e1,e2];exact n) (fun g i=>by rw[kW]at i;exact .inr (E g i)) rfl rfl ⟨rfl,rfl⟩ (by
   intro j K S;simp only[eO,List.mem_cons,List.mem_nil_iff,or_false]at K;rcases K with rfl|rfl|rfl|rfl|rfl|rfl|rfl|rfl|rfl|rfl<;>first|exact⟨rfl,rfl⟩|exact absurd rfl S)
  have L:=dA A;clear x m a hK y D E n A;go_wp2_with fail;refine bodyPost_end (v:=.tuple #[]) (by simp[results,results58,go_sem]) rfl ?_;exact⟨rfl,⟨_,L.out.1⟩,L.out.2⟩
 ·skip;go_wp2_with(at_builtin;go_loud (refine wpList_append_own _ rfl _ _ 60 rfl w.heap.size 174 i0 (.agg #[I T 0,.string ⟨#[]⟩]) 2 24 underlying60 W X a5 R rfl (by decide) (J a1 k a0) k ((s.net.take k).flatMap eM) (by simp[Act.eval]) aa ⟨g5,(k+1)*2,Z⟩ (s.net.length - (k+1)) (r - (k+1)) ((s.net.drop (k+1)).flatMap eM) (by simp[Act.eval]) ?c1 ?c2 ?c3 ?c4 ?c5 ?c6 ?_));case c1=>rw[a6.out,List.length_drop]
  case c2=>intro j u B;rw[Go.WideShapes.add_plain];exact ab.out _ u (ai.out j u B)
  case c3=>exact U.out _
  case c4=>unfold maxLen;omega
  case c5=>omega
  case c6=>exact d.out.size
  intro v2 w2 x m _;obtain⟨C,b,rfl⟩:=eB x;have a:Below w.heap.size w w2:=⟨m.os.trans d.out.os,m.tape.trans d.out.tape,m.output.trans d.out.output,Nat.le_trans d.out.size m.size,fun g i=>(m.block g (Nat.lt_of_lt_of_le i d.out.size) (fun F=>by have N:=(ad.out g F.symm);omega)).trans (d.out.block g i)⟩
  have hK:dK (fun g=>g=Wc∨(v 5).ownBlock=some g) w (w2.setCell ⟨Wc,5,Z⟩ (J C (k+(s.net.length - (k+1))) b)):=by have o:=dH.setCell w2 ⟨Wc,5,Z⟩ (J C (k+(s.net.length - (k+1))) b);exact⟨o.os.trans a.os,o.tape.trans a.tape,o.output.trans a.output,by rw[o.size];exact a.size,fun g i F=>(o.block g (fun N=>F (.inl N))).trans (a.block g i)⟩
  have y:dC w2 Wc (iW v s.nb f) 63:=Q.out.blk.later a;have a4:=y.cell 5;have al:=y.free 5;simp at a4;have D:=y.set 5 (J C (k+(s.net.length - (k+1))) b);rw[rA v s.nb f _ 5 (by decide)]at D;have E:∀g,(J C (k+(s.net.length - (k+1))) b).ownBlock=some g->w.heap.size<=g:=fun g i=>(x.lt g i).1;have n:(w2.setCell ⟨Wc,5,Z⟩ (J C (k+(s.net.length - (k+1))) b)).ownsRow base 174 2 (J C (k+(s.net.length - (k+1))) b) (k+(s.net.length - (k+1))) ((s.net.take k).flatMap eM++(s.net.drop (k+1)).flatMap eM):=dO (mW x Q.out.jd) (fun g i=>(dH.setCell w2 ⟨Wc,5,Z⟩ _).block g (fun F=>by have N:=E g i;have h7:g=Wc:=F;omega));have A:=dP.turn (k:=5) (v':=gD v 5 (J C (k+(s.net.length - (k+1))) b)) (f':=f) (s':={s with net:=s.net.take k++s.net.drop (k+1)}) (by decide) Q hK (fun j _ K=>nF K) D (by
   rw[kW];have e1:rN hs {s with net:=s.net.take k++s.net.drop (k+1)} 5=k+(s.net.length - (k+1)):=by show(s.net.take k++s.net.drop (k+1)).length=_;simp;omega
   have e2:rX hs {s with net:=s.net.take k++s.net.drop (k+1)} 5=(s.net.take k).flatMap eM++(s.net.drop (k+1)).flatMap eM:=by show(s.net.take k++s.net.drop (k+1)).flatMap eM=_;simp
   rw[e1,e2];exact n) (fun g i=>by rw[kW]at i;exact .inr (E g i)) rfl rfl ⟨rfl,rfl⟩ (by
   intro j K S;simp only[eO,List.mem_cons,List.mem_nil_iff,or_false]at K;rcases K with rfl|rfl|rfl|rfl|rfl|rfl|rfl|rfl|rfl|rfl<;>first|exact⟨rfl,rfl⟩|exact absurd rfl S)
  have L:=dA A;clear x m a hK y D E n A;go_wp2_with fail;refine bodyPost_end (v:=.tuple #[]) (by simp[results,results58,go_sem]) rfl ?_;exact⟨rfl,⟨_,L.out.1⟩,L.out.2⟩
def kN(S B:Int)(i:Nat):Nat->Int
 |0=>0
 |t+1=>bif fH S t&&(fH B t||decide ((t:Int)=(i:Int))) then kN S B i t+2^t else kN S B i t
theorem wR(S B:Int)(i:Nat):∀t,0<=kN S B i t/\kN S B i t<=2^t - 1
 |0=>by simp[kN]
 |t+1=>by
  have h:=wR S B i t;have e:(2:Int)^(t+1)=2^t+2^t:=by rw[Int.pow_succ];omega
  unfold kN;cases(fH S t&&(fH B t||decide ((t:Int)=(i:Int))));·rw[cond_false,e];omega
  ·rw[cond_true,e];omega
theorem p2:∀t:Fin 6,(2:Int)^t.val<=32:=by decide
theorem KU(hLO:jA)(hUO:i9)(Wc base t:Nat)(f:Bool)(hs:List Ho)(s:CS)(i:Nat)(b:Int)(w:World)(v:Nat->Value)(h:dP w Wc base t v f hs s)(a0:i<hs.length)(hi:i<s.ns.length)(ht:t<=1000000)(hb:i_ b)(n:0<s.ns[i].d.recs.length)(Q:s.ns[i].d.recs.length<=100000000)(x:eE)(hx:s.ns[i].d.recs[s.ns[i].d.recs.length-1]'(by omega)=x)(hS:0<=x.S/\x.S<=31):Calls pG 54 #[P0 (Y ⟨Wc,0,Z⟩),I T (i:Int),I T b] w fun q w'=>q=.returned (I T (kN x.S (eV b%32) i hs.length))/\dP w' Wc base t v f hs s/\Below base w w'/\dN (wK hs[i].C hs[i].Kn) (wK hs[i].C hs[i].Kn) w w':=by
 have m:i<hs.length:=by rw[h.hl];exact hi
 have a4:=h.n5;have a5:=h.hl;obtain⟨g0,a1,K,c0,a9,o⟩:=h.ones (k:=0) (by decide) (show 0<hs.length by omega);have x0:=o i (P0 (Y ⟨hs[i].Kn,0,Z⟩)) (by show(hs.map _)[i]?=_;rw[List.getElem?_map,List.getElem?_eq_getElem m];rfl);have p:rN hs s 0=hs.length:=rfl;rw[p]at c0;have r:=dA ((h.host i m hi).recs hLO hUO ht);have HH:=dA h;have ag:(0:Int)<=(i:Int)/\(i:Int)<(hs.length:Int):=by omega
 clear h o;go_enter func54,ntmps54;go_wp2_with fail;refine r.out.mono ?_;rintro q w3 ⟨vr,rfl,c,u,l⟩;clear r c0 x0;have B:s.ns.set i s.ns[i]=s.ns:=List.set_getElem_self hi;obtain⟨U,q2⟩:=HH.out.gu (n':=s.ns[i]) m hi u l ⟨rfl,rfl,rfl⟩;rw[B]at U;have E:Hid (dP w3 Wc base t v f hs s):=U;have M:=dA q2;have H:=dA l;obtain⟨rc,j⟩:∃y,s.ns[i].d.recs=y:=⟨_,rfl⟩;have e:w3.ownsRow w.heap.size 66 3 vr rc.length (rc.flatMap eE.cells):=by rw[←j];exact c
 have A:rc[rc.length-1]'(by rw[←j];omega)=x:=by subst j;exact hx
 rw[j]at n Q;obtain⟨g,ae,z,hg,D⟩:=(eY.gq e).at n;subst z;have F:=oZ D (rc.length-1) (by omega) x A;have c2:=F 2 (I T x.S) rfl;have N:=E.out.cell (k:=0) (by decide);rw[K,p]at N;have a6:decide ((0:Int)<(rc.length:Int))=true:=by simp;omega
 have ad:IntKind.i64.wrap ((rc.length:Int) - 1)=((rc.length-1:Nat):Int):=by rw[IntWalk.i64_in _ (by omega)];omega
 have a2:(0:Int)<=((rc.length-1:Nat):Int)/\((rc.length-1:Nat):Int)<(rc.length:Int):=by omega
 have hB:0<=eV b%32/\eV b%32<=31:=by omega
 have V:=dA (mX b 32 w3 (by decide) hb.1 hb.2);clear F D c e u l U q2 B A;go_upto_region 4 with fail;go_loopw [8,9] (fun s8 s9 wr=>∃k:Nat,k<=hs.length/\s9=I T (k:Int)/\s8=I T (kN x.S (eV b%32) i k)/\wr=w3) (fun s8 s9 wr=>hs.length - (intOf s9).toNat);case atStart=>exact⟨0,by omega,rfl,rfl,rfl⟩
 case round=>
  obtain⟨k,a3,rfl,rfl,rfl⟩:=hrel;have hw:=wR x.S (eV b%32) i k;by_cases ac:k<hs.length
  ·have ab:decide ((k:Int)<(hs.length:Int))=true:=by simp;omega
   obtain⟨b1,z⟩:∃y,fH x.S k=y:=⟨_,rfl⟩;obtain⟨b2,O⟩:∃y,fH (eV b%32) k=y:=⟨_,rfl⟩;obtain⟨L,X⟩:∃y,decide ((k:Int)=(i:Int))=y:=⟨_,rfl⟩;have HW:Hid (kN x.S (eV b%32) i (k+1)=bif b1&&(b2||L) then kN x.S (eV b%32) i k+2^k else kN x.S (eV b%32) i k):=by unfold Hid;rw[kN,z,O,X]
   have a8:(2:Int)^k<=32:=p2 ⟨k,by omega⟩;have ai:(0:Int)<2^k:=Int.pow_pos (by decide);have aa:((k:Int)==(i:Int))=L:=by rw[←X];rfl
   have R:=dA z;have W:=dA O;generalize kN x.S (eV b%32) i k=wk at*;clear z O X;go_wp2_with fail;refine(sD x.S k _ hS (by omega)).mono ?_;rintro q w1 ⟨rfl,a⟩;obtain rfl:=a.symm;rw[R.out];go_wp2_with fail;refine V.out.mono ?_;rintro q w1 ⟨rfl,a⟩;obtain rfl:=a.symm;go_wp2_with fail;refine(sD (eV b%32) k _ hB (by omega)).mono ?_;rintro q w1 ⟨rfl,a⟩;obtain rfl:=a.symm;rw[W.out];have aj:IntKind.i64.wrap (2^k)=2^k:=IntWalk.i64_in _ (by omega);have a7:IntKind.i64.wrap (wk+2^k)=wk+2^k:=IntWalk.i64_in _ (by omega);have af:wk+2^k<9223372036854775808:=by omega
   cases b1<;>cases b2<;>cases L;all_goals
    go_wp2_with fail
    go_roundw
    case rel=>exact⟨k+1,by omega,rfl,by rw[HW.out];first|rfl|simp,by trivial⟩
    case measure=>simp[intOf];omega
  obtain rfl:k=hs.length:=by omega
  have ah:decide ((hs.length:Int)<(hs.length:Int))=false:=by simp
  go_wp2;go_ret;exact⟨rfl,E,M,H⟩
end Go.Proofs.YtdcainmlcpafbaaGreatDoor
