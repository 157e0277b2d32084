import Derived.Test.YtdcainmlcpafbaaGreatDoorJ30
set_option linter.all false
set_option maxHeartbeats 8000000
set_option maxRecDepth 20000
namespace Go.Proofs.YtdcainmlcpafbaaGreatDoor
open Go.RowKit
open Value renaming slice->J,pointer->P0
open Tryz
open Tryz renaming prog->pG
open IntKind renaming i64->T
open Option renaming none->Z,some->Y
open Obj renaming cells->G
open Value (bool)
def SJ(r:eM):r.cells.length=3:=rfl
def pK{w:World}{g:Nat}{rs:List eM}(a:∀j u,(rs.flatMap eM.cells)[j]?=Y u->w.cell? ⟨g,j,Z⟩=Y u)(k:Nat)(c:k<rs.length)(x:eM)(e:rs[k]=x):w.rangeAt g (k*3) [I x.E,I x.P,I x.S]:=by
 intro j u b;have d:j<3:=by have:=(List.getElem?_eq_some_iff.1 b).1;simpa using this
 rw[a _ _ (lY eM.cells 3 SJ rs k c j d),e];show Y ([I x.E,I x.P,I x.S].getD j undef)=_;rw[List.getD_eq_getElem?_getD,b];rfl
def yB(hLO:i8)(hUO:i6)(Wc base t:Nat)(hs:List Ho)(s:CS)(i:Nat)(w:World)(h:CA w Wc base t true hs s)(hi:i<s.ns.length)(ht:t<=20000000)(hL:pX s i):Calls pG 50 #[P0 (Y ⟨Wc,0,Z⟩),I (i:Int)] w λq w'=>q=.returned (.tuple #[])/\CA w' Wc base t true hs (s.look i)/\Below base w w':=by
 obtain⟨v,h⟩:=h;obtain⟨i0,co,cx,cO,cj⟩:=info_parts yK;have ao:i<hs.length:=by rw[h.hl];exact hi
 have db:=h.n5;have d0:=h.hl;obtain⟨g0,cW,c4,c0,d8,bx⟩:=h.ones (k:=0) dG (show 0<hs.length by omega);have x0:=bx i (P0 (Y ⟨hs[i].Kn,0,Z⟩)) (by show(hs.map _)[i]?=_;rw[List.getElem?_map,List.getElem?_eq_getElem ao];rfl);have cH:rN hs s 0=hs.length:=rfl;rw[cH]at c0;have bQ:=dF ((h.host i ao hi).done hLO hUO);have HH:=dF h;have HL:=dF hL;have au:=dF c4;have d3:=λa w=>EE a w;have d6:(0:Int)<=(i:Int)/\(i:Int)<(hs.length:Int):=oG;clear h hL bx;go_enter func50,ntmps50;go_wp2_with fail;refine bQ.mono ?_;rintro r1 w1 ⟨vl,rfl,ay,_,aJ,bG⟩;clear bQ;obtain⟨q1,q2⟩:=HH.iw (n':={s.ns[i] with res:=[]}) ao hi aJ bG ⟨rfl,rfl,rfl⟩;have aX:=dF q1;have cI:=dF q2;have ba:=dF ay;obtain⟨la,lc,rfl⟩:=eK ay;have C:s.nd i=s.ns[i]:=CS.jy hi;clear q1 q2 aJ bG ay c0 x0 HH;obtain⟨S1,o⟩:∃y,({s with ns:=s.ns.set i {s.ns[i] with res:=[]}}:CS)=y:=⟨_,rfl⟩;obtain⟨z,an⟩:∃y,({s.tell i with ns:=s.ns.set i {s.ns[i] with res:=[]}}:CS)=y:=⟨_,rfl⟩;rw[o]at aX;obtain⟨L,ax⟩:∃y,s.ns[i].res.length=y:=⟨_,rfl⟩;have bt:Hid (L=0->S1=z):=by
  intro f;have h8:s.ns[i].res=[]:=List.length_eq_zero_iff.1 oG;rw[←o,←an];have h7:s.tell i=s:=by unfold CS.tell;rw[C,h8]
  rw[h7]
 have bh:Hid (0<L->L=1/\∃r,s.ns[i].res=[r]/\∀wr,(∃vv,dU wr Wc base t vv true hs S1)->Calls pG 83 #[P0 (Y ⟨Wc,0,Z⟩),I (i:Int),.agg #[I r.op,I r.bl,I r.v,I r.e,I r.q]] wr λq w'=>q=.returned (.tuple #[])/\(∃vv,dU w' Wc base t vv true hs z)/\Below base wr w'):=by
  intro f;rcases HL.res with h8|⟨r,p,h8,h7,hp,h6,h5⟩;·rw[C]at h8;rw[h8]at ax;simp at ax;omega
  ·rw[C]at h8;refine⟨by rw[h8]at ax;simpa using ax.symm,r,h8,λwr cf=>?_⟩;have bJ:i<s.3.length:=by have h1:=aX.ll.1;rw[←o]at h1;have h2:s.3.length=(s.ns.set i {s.ns[i] with res:=[]}).length:=h1;rw[h2];simpa using hi
   have cd:s.3.getD i 0=s.3[i]:=by rw[List.getD_eq_getElem?_getD,List.getElem?_eq_getElem bJ];rfl
   obtain⟨dc,m1,m2⟩:=List.findIdx?_eq_some_iff_getElem.1 h7;rw[cd]at m1 m2;have e9:=P9 Wc base t true hs S1 i s.3[i] r p wr cf (by rw[←o];exact bJ) (by subst o;rfl) (by rw[←o];exact hp) (by subst o;exact m1) (by subst o;intro j hj cl;have:=m2 j cl;simpa using this) (by subst o;exact h6) (by subst o;exact h5) (by subst o;exact HL.bd.1) (by subst o;exact⟨HL.bd.2.1,HL.bd.2.2.1⟩);refine e9.mono ?_;rintro q w' ⟨rfl,hc,hb⟩;refine⟨rfl,?_,hb⟩;have e8:({S1 with ops:=S1.ops.set p {S1.ops[p]'(by rw[←o];exact hp) with dn:=true},rs:=S1.rs++[r],rd:=S1.rd++[(S1.ops[p]'(by rw[←o];exact hp)).rd]}:CS)=z:=by
    subst o;subst an;have h4:s.tell i={s with ops:=s.ops.set p {s.ops[p] with dn:=true},rs:=s.rs++[r],rd:=s.rd++[s.ops[p].rd]}:=by unfold CS.tell;rw[C,h8];dsimp only;rw[h7];dsimp only;rw[List.getD_eq_getElem?_getD,List.getElem?_eq_getElem hp];rfl
    rw[h4]
   rw[←e8];exact hc
 rw[ax]at ba⊢;go_upto_region 3 with fail;go_loopw [5] (λs5 wr=>∃k:Nat,k<=L/\s5=I (k:Int)/\Below base w wr/\(∃vv,dU wr Wc base t vv true hs (if k=0 then S1 else z))/\(k=0->wr=w1)) (λs5 wr=>L - (intOf s5).toNat);case atStart=>exact⟨0,oG,rfl,cI,⟨v,aX⟩,λ_=>rfl⟩
 case round=>
  obtain⟨k,d9,rfl,aN,V,bi⟩:=hrel;by_cases aa:k<L
  ·obtain⟨cz,r,hr,hE⟩:=bh.out oG;obtain rfl:k=0:=oG;obtain rfl:=bi rfl;have HE:=dF (hE wr V);have b9:=dF aN;have cE:wr.rangeAt 0 0 []:=by intro k u A;simp at A
   subst cz;rw[hr]at ba;obtain⟨g,de,h1,Q,l⟩:=(fM.ig ba).at oG;cases h1;have cM:Hid (wr.rangeAt g 0 [I r.op,I r.bl,I r.v,I r.e,I r.q]):=by intro k u A;rw[Nat.zero_add];exact l k u (by simpa[dO.cells] using A)
   clear cE l hE aN V bi bh;go_wp2_with(refine wpList_load_mid rfl 76 _ rfl g 0 rfl [I r.op,I r.bl,I r.v,I r.e,I r.q] _ cM underlying76 rfl kG ?_);refine HE.mono ?_;rintro q w2 ⟨rfl,aP,ce⟩;go_wp2_with fail;go_roundw;case rel=>exact⟨1,oG,rfl,b9.trans ce,by simpa using aP,oG⟩
   case measure=>simp[intOf]
  have bC:∃vv,dU wr Wc base t vv true hs z:=by
   by_cases bR:k=0;·rw[if_pos bR]at V;have f:=bt.out oG;rw[←f];exact V
   ·rw[if_neg bR]at V;exact V
  have b9:=dF aN;obtain⟨v2,aP⟩:=bC;have aF:=dF aP;have bH:decide ((k:Int)<(L:Int))=false:=nG;clear V bi aN bt bh aP;have bZ:z.ns=s.ns.set i {s.ns[i] with res:=[]}:=by rw[←an]
  have aM:i<z.ns.length:=by rw[bZ];simpa using hi
  have cm:z.ns[i]={s.ns[i] with res:=[]}:=by simp only[bZ,List.getElem_set_self]
  obtain⟨g1,cT,cF,c1,d2,bL⟩:=aF.ones (k:=0) dG (show 0<hs.length by omega);have x1:=bL i (P0 (Y ⟨hs[i].Kn,0,Z⟩)) (by show(hs.map _)[i]?=_;rw[List.getElem?_map,List.getElem?_eq_getElem ao];rfl);have c8:rN hs z 0=hs.length:=rfl;rw[c8]at c1;have bO:=dF ((aF.host i ao aM).recs hLO hUO ht);clear bL cF;go_wp2_with fail;refine bO.mono ?_;rintro q w3 ⟨vr,rfl,ae,cJ,ca⟩;clear bO c1 x1;have cc:z.ns.set i z.ns[i]=z.ns:=List.set_getElem_self aM;obtain⟨q1,q2⟩:=aF.iw (n':=z.ns[i]) ao aM cJ ca ⟨rfl,rfl,rfl⟩;rw[cc]at q1;have av:Hid (dU w3 Wc base t v2 true hs z):=q1;have bW:Hid (Below base w w3):=b9.trans q2;rw[cm]at ae;obtain⟨rc,U⟩:∃y,s.ns[i].d.recs=y:=⟨_,rfl⟩;have X:w3.ownsRow wr.1.size 66 3 vr rc.length (rc.flatMap eM.cells):=by rw[←U];exact ae
  obtain⟨ra,a0,rfl⟩:=eK X;have bo:=dF X;obtain⟨aw,bS⟩:∃y,wr.1.size=y:=⟨_,rfl⟩;have bF:∀g,(J ra rc.length a0).ownBlock=some g->∀k∈eW,(v2 k).ownBlock≠some g:=by intro g Q k hk f;have h8:=(X.lt g Q).1;have h7:=((aF.row k hk).lt g f).2;omega
  have ag:=HL.out;have l1:=ag.kn;have l2:=ag.hl;have l3:=ag.h0;have l4:=ag.eq;have l5:=ag.be;have l6:=ag.rg;have l7:=ag.bd.2.2.2;have bu:z.hi=s.hi:=by rw[←an];unfold CS.tell;split<;>(try split)<;>rfl
  have aK:z.kn=s.kn:=by rw[←an];unfold CS.tell;split<;>(try split)<;>rfl
  rw[C,U]at l1 l2;have aT:i<z.kn.length:=by rw[av.ll.2];exact aM
  obtain⟨gk,cS,aG,ck,df,bp⟩:=av.ones (k:=10) dG (show 0<z.kn.length by omega);have xk:=bp i (I z.kn[i]) (by show(z.kn.map I)[i]?=_;rw[List.getElem?_map,List.getElem?_eq_getElem aT];rfl);have c5:rN hs z 10=z.kn.length:=rfl;rw[c5]at ck;have aj:=av.row 10 dG;rw[aG]at aj;obtain⟨cV,aB⟩:=fC aj (g:=gk) rfl;have cD:w3.frozen? ⟨gk,i,Z⟩=false:=by simp[World.frozen?,aB]
  have bw:s.kn.getD i 0=z.kn[i]:=by rw[List.getD_eq_getElem?_getD,←aK,List.getElem?_eq_getElem aT];rfl
  rw[bw]at l1;have cC:decide ((rc.length:Int)<z.kn[i])=false:=nG;have bV:(0:Int)<=(i:Int)/\(i:Int)<(z.kn.length:Int):=oG;obtain⟨B,M⟩:∃y,({z with kn:=z.kn.set i (rc.length:Int)}:CS)=y:=⟨_,rfl⟩;obtain⟨p1,p2,p3⟩:=dU.lm (s':=B) (k:=10) dG av aG i (I (rc.length:Int)) (by rw[←M]) (by rw[←M]) (by rw[←M];simp) (by intro j hj aU;rw[←M];simp only[eW,List.mem_cons,List.mem_nil_iff,or_false]at hj;rcases hj with rfl|rfl|rfl|rfl|rfl|rfl|rfl|rfl|rfl|rfl<;>first|exact⟨rfl,rfl⟩|exact absurd rfl aU) (by rw[←M];show(z.kn.set i _).length=_;simp[rN]) (by rw[←M];show(z.kn.set i (rc.length:Int)).map I=(z.kn.map I).set i _;rw[List.map_set])
  have cv:=dF p1;have cn:Hid (Below base w (w3.setCell ⟨gk,i,Z⟩ (I (rc.length:Int)))):=bW.trans p2;have cp:Hid ((w3.setCell ⟨gk,i,Z⟩ (I (rc.length:Int))).ownsRow aw 66 3 (J ra rc.length a0) rc.length (rc.flatMap eM.cells)):=by rw[←bS];exact dW bo (λg Q=>p3.block g (λf=>bF g Q 10 dG (by rw[aG,f];rfl)))
  have ch:=dF aK;have cQ:=dF bu;have L4:=dF l4;have L5:=dF l5;have L6:=dF l6;clear bp aj bw p1 p2 p3 av bW bo aB aG aK bu l1 l4 l5 l6 ae X;go_upto_region 11 with fail;generalize w3.setCell ⟨gk,i,Z⟩ (I (rc.length:Int))=W4 at*;clear cD cC bV ck xk bH;have ap:B.hi=s.hi:=by rw[←M];exact cQ
  obtain⟨H,hH⟩:∃y,s.hi=y:=⟨_,rfl⟩;rw[hH]at l2 l3 l7 ap;have ab:=dF ap;have cL:({B with hi:=H++(rc.take 0).drop H.length}:CS)=B:=by simp;rw[←ab.out]
  clear ap;go_loopw [7] (λs7 wr=>∃k:Nat,k<=rc.length/\s7=I (k:Int)/\(∃vv,dU wr Wc base t vv true hs {B with hi:=H++(rc.take k).drop H.length}/\∀g,(J ra rc.length a0).ownBlock=some g->(vv 9).ownBlock≠some g)/\wr.ownsRow aw 66 3 (J ra rc.length a0) rc.length (rc.flatMap eM.cells)/\Below base w wr) (λs7 wr=>rc.length - (intOf s7).toNat);case atStart=>exact⟨0,oG,rfl,⟨v2,by rw[cL];exact cv,λg Q=>bF g Q 9 dG⟩,cp,cn⟩
  case round=>
  obtain⟨k,aK,rfl,⟨vv,l,b6⟩,aR,bc⟩:=hrel;have l4:∀k (h1:k<rc.length) (h2:k<H.length),rc[k]=H[k]:=by intro k h1 h2;have f:=L4.out k (by rw[C,U];exact h1) (by rw[hH];exact h2);simp only[C,U,hH]at f;exact f
  have l5:∀(h1:H.length<rc.length),sD (rc[H.length-1]' oG) rc[H.length]=true:=by intro h1;have f:=L5.out (by rw[C,U,hH];exact h1);simp only[C,U,hH]at f;exact f
  have l6:∀k (h1:k<rc.length),(0<=rc[k].S/\rc[k].S<=31)/\(0<=rc[k].E/\rc[k].E<=10000000000000)/\(1<=k->1<=rc[k].P/\rc[k].P<=5):=by intro k h1;have f:=L6.out k (by rw[C,U];exact h1);simp only[C,U]at f;exact f
  have bD:=dF b6;have ah:=dF aR;have aC:=dF bc;by_cases aa:k<rc.length;case neg=>
   have bv:k=rc.length:=oG;have b4:rc.take k=rc:=List.take_of_length_le oG;rw[b4]at l;have ak:=dF l;have bH:decide ((k:Int)<(rc.length:Int))=false:=nG;have cG:Hid ({B with hi:=H++rc.drop H.length}=s.look i):=by unfold Hid CS.look;rw[C,U,hH,←M,ch.out,←an]
   clear l4 l5 l6 b6 aR bc l;go_wp2;refine bodyPost_end (v:=.tuple #[]) (by simp[results,results50,go_sem]) rfl ?_;rw[←cG.out];exact⟨rfl,⟨_,ak⟩,aC⟩
  have d1:k<=H.length:=oG;have b4:(rc.take k).drop H.length=[]:=List.drop_eq_nil_of_le (by rw[List.length_take];omega);rw[b4,List.append_nil]at l;obtain⟨x,af⟩:∃y,rc[k]=y:=⟨_,rfl⟩;obtain⟨b,cY,er,bk,V⟩:=(fM.ig aR).at oG;cases er;have cb:decide ((k:Int)<(rc.length:Int))=true:=nG;have cU:(0:Int)<=(k:Int)/\(k:Int)<(rc.length:Int):=oG;have bA:({B with hi:=H}:CS)=B:=by rw[←ab.out]
  have a7:=l.cell (k:=9) dG;obtain⟨a9,c9,aQ⟩:=eK (l.row 9 dG);rw[aQ]at a7;have bK:rN hs {B with hi:=H} 9=H.length:=rfl;rw[bK]at a7;have ak:=dF l;clear V b6 aR bc l aQ bK;by_cases bX:k=H.length;case neg=>
   have bm:((k:Int)==(H.length:Int))=false:=nG;obtain⟨W,n⟩:∃y,y=H:=⟨_,rfl⟩;have aD:W=H++(rc.take (k+1)).drop H.length:=by rw[n,List.drop_eq_nil_of_le (by rw[List.length_take];omega),List.append_nil]
   have aZ:k<W.length:=by rw[n];omega
   have bb:W[k]=x:=by subst n;rw[←l4 k aa oG];exact af
   have ac:Hid (dU wr Wc base t vv true hs {B with hi:=W}):=by rw[n];exact ak
   have F:=ah;have b8:=aC;have am:=bD.out;have b0:=dF aD;have cZ:((k:Int)==(H.length:Int))=false:=bm;clear ak ah aC l4 l5 l6 aD n bm;obtain⟨Wq,cg⟩:∃y,y=wr:=⟨_,rfl⟩;subst cg;obtain⟨gh,aA,cw,ad,cu,az⟩:=ac.ones (k:=9) dG (show 0<W.length by omega);have aV:rN hs {B with hi:=W} 9=W.length:=rfl;rw[aV]at ad;have a8:Wq.rangeAt b (k*3) [I x.E,I x.P,I x.S]:=pK (λj u A=>by obtain⟨g9,c9,e9,_,l⟩:=(fM.ig F).at oG;cases e9;exact l j u A) k aa x af
   have ar:Wq.rangeAt gh (k*3) [I x.E,I x.P,I x.S]:=pK az k aZ x bb;have ai:=dF a8;have bg:=dF ar;have bj:=dF ad;have bM:(0:Int)<=(k:Int)/\(k:Int)<(W.length:Int):=oG;clear a8 ar ad az;go_upto_region 17 with fail;(try clear a7);go_cut [124] (λs124 wx=>s124=.bool false/\Bw Wq wx);case first=>refine eZ (S:=λw'=>w'=Wq.drew) (λ_=>?_) (hS:=rfl);refine dH 0 ?_;refine dH 1 ?_;refine dH 2 (v:=P0 (Y ⟨b,k*3,Z⟩)) ?_ (hy:=λw c=>by go_simp);refine i4 3 b (k*3) [I x.E,I x.P,I x.S] ?_ (λw c=>by rw[c];exact ai);refine dH 4 ?_;refine dH 5 ?_;refine dH 6 ?_;refine dH 7 (v:=J (Y ⟨gh,0,Z⟩) W.length aA) ?_ (hy:=λw c=>by rw[c];have f:=bj.out;go_simp);refine dH 8 ?_;refine dH 9 (v:=P0 (Y ⟨gh,k*3,Z⟩)) ?_ (hy:=λw c=>by go_simp);refine i4 10 gh (k*3) [I x.E,I x.P,I x.S] ?_ (λw c=>by rw[c];exact bg);refine dH 11 (v:=.bool false) ?_ (hy:=λw c=>by have f:=E4 x.E x.P x.S x.E x.P x.S w;simp at f;first|(go_simp;done)|(go_simp;rw[f];rfl)|(go_simp;simp[f];done)|(simp[execOp];go_simp;rw[f]));refine dn ?_;go_wp2_with fail;go_meet;exact⟨rfl,b_.drew⟩
   case rest=>
   obtain⟨rfl,N⟩:=hcut;go_wp2_with fail;go_roundw;case rel=>exact⟨k+1,oG,rfl,⟨_,by have f:=ac.later N;rw[←b0.out];exact f,am⟩,dW F (λg Q=>N.block g (rJ F Q)),b8.trans (N.mono ac.jf)⟩
   case measure=>simp[intOf];omega
  have bv:((k:Int)==(H.length:Int))=true:=nG;have b7:=l5 oG;have aJ:1<=k:=oG;have bn:k-1<rc.length:=Nat.lt_of_le_of_lt (Nat.sub_le k 1) aa;obtain⟨x0,bf⟩:∃y,rc[k-1]'(bn)=y:=⟨_,rfl⟩;have aS:sD x0 x=true:=by
   have e1:rc[H.length-1]' oG=x0:=by rw[←bf];congr 1;omega
   have e2:rc[H.length]' oG=x:=by rw[←af];congr 1;omega
   rw[e1,e2]at b7;exact b7
  have r0:=l6 (k-1) oG;have r1:=l6 k aa;rw[bf]at r0;rw[af]at r1;have bP:=dF aS;obtain⟨D,ci⟩:∃y,y=wr:=⟨_,rfl⟩;subst ci;have al:Hid (dU D Wc base t vv true hs B):=by rw[←bA];exact ak
  have aE:=dF bX;clear l4 l5 l6 b7 aS ak bA bX;go_upto_region 14 with fail;clear a7 bv cb;have br:D.rangeAt b ((k-1)*3) [I x0.E,I x0.P,I x0.S]:=pK (λj u A=>by obtain⟨g9,c9,e9,_,l⟩:=(fM.ig ah).at oG;cases e9;exact l j u A) (k-1) oG x0 bf
  have a8:D.rangeAt b (k*3) [I x.E,I x.P,I x.S]:=pK (λj u A=>by obtain⟨g9,c9,e9,_,l⟩:=(fM.ig ah).at oG;cases e9;exact l j u A) k aa x af
  have bE:=dF br;have ai:=dF a8;clear br a8;have c3:rN hs B 9<=2000000000:=by show B.hi.length<=_;rw[ab.out];exact l7
  have cy:=al.cell (k:=9) dG;have R:Bw D (D.alloc (G #[I x.E,I x.P,I x.S] 66)).drew:=(a_ _ _).drew;have bz:base<=(D.alloc (G #[I x.E,I x.P,I x.S] 66)).drew.1.size:=Nat.le_trans al.jf R.size;have aO:=dF (al.later R);have cr:(D.alloc (G #[I x.E,I x.P,I x.S] 66)).drew.cell? ⟨Wc,9,Z⟩=Y (vv 9):=aO.cell (k:=9) dG;have mv:∀W6:World,W6.1[b]?=D.1[b]?->W6.rangeAt b (k*3) [I x.E,I x.P,I x.S]:=λW6 e j u A=>(World.cell?_of_block (a:=⟨b,k*3+j,Z⟩) e).trans (ai.out j u A);have aY:D.drew.rangeAt b (k*3) [I x.E,I x.P,I x.S]:=mv _ rfl;have b3:(D.alloc (G #[I x.E,I x.P,I x.S] 66)).drew.rangeAt b (k*3) [I x.E,I x.P,I x.S]:=mv _ (R.block b bk);have bU:(D.alloc (G #[I x.E,I x.P,I x.S] 66)).drew.ownsRow base 66 3 (vv 9) (rN hs B 9) (rX hs B 9):=aO.row 9 dG;have bN:∀j u,[I x.E,I x.P,I x.S][j]?=Y u->(D.alloc (G #[I x.E,I x.P,I x.S] 66)).drew.cell? ((⟨D.1.size,0,Z⟩:Addr).add j)=Y u:=by intro j u A;rw[Go.WideShapes.add_plain];refine(World.cell?_alloc_at _ _ _ _ sG).trans ?_;simpa using A
  have bI:b≠Wc:=λf=>by obtain⟨c7,h8⟩:=fC ah (g:=b) rfl;rw[f,al.blk.blk]at h8;simp at h8
  have c2:(vv 9).ownBlock≠some b:=bD.out b rfl;have HP:Hid (∀v' w3,w3.ownsRow base 66 3 v' (rN hs B 9+1) (rX hs B 9++[I x.E,I x.P,I x.S])->(D.alloc (G #[I x.E,I x.P,I x.S] 66)).drew.grownBy w3 (vv 9).ownBlock->(∃g',v'.ownBlock=Y g'/\((vv 9).ownBlock=Y g'∨(D.alloc (G #[I x.E,I x.P,I x.S] 66)).drew.1.size<=g'/\(D.alloc (G #[I x.E,I x.P,I x.S] 66)).drew.grownBy w3 none))->(w3.cell? ⟨Wc,9,Z⟩=Y (vv 9)/\w3.frozen? ⟨Wc,9,Z⟩=false/\(w3.rangeAt b (k*3) [I x.E,I x.P,I x.S]/\(w3.setCell ⟨Wc,9,Z⟩ v').rangeAt b (k*3) [I x.E,I x.P,I x.S])/\dU (w3.setCell ⟨Wc,9,Z⟩ v') Wc base t (gM vv 9 v') true hs {B with hi:=H++[x]}/\(v'.ownBlock≠some b)/\(w3.setCell ⟨Wc,9,Z⟩ v').1[b]?=D.1[b]?/\Below base w (w3.setCell ⟨Wc,9,Z⟩ v')/\D.1.size<=(w3.setCell ⟨Wc,9,Z⟩ v').1.size)):=by
   intro v' w3 ho Q a6;obtain⟨a1,a2,a3,a4,a5⟩:=dU.push (s':={B with hi:=H++[x]}) (k:=9) (m:=1) dG aO ho Q a6 rfl rfl ⟨rfl,rfl⟩ (by intro j hj aU;simp only[eW,List.mem_cons,List.mem_nil_iff,or_false]at hj;rcases hj with rfl|rfl|rfl|rfl|rfl|rfl|rfl|rfl|rfl|rfl<;>first|exact⟨rfl,rfl⟩|exact absurd rfl aU) (by show(H++[x]).length=B.hi.length+1;rw[ab.out];simp) (by show(H++[x]).flatMap eM.cells=B.hi.flatMap eM.cells++_;rw[ab.out];simp[eM.cells])
   have e1:w3.1[b]?=D.1[b]?:=(Q.block b (Nat.lt_of_lt_of_le bk R.size) (λf=>c2 f.symm)).trans (R.block b bk);have e2:(w3.setCell ⟨Wc,9,Z⟩ v').1[b]?=D.1[b]?:=((dM.setCell w3 ⟨Wc,9,Z⟩ v').block b bI).trans e1;refine⟨a1,a2,⟨mv _ e1,mv _ e2⟩,a3,λf=>?_,e2,aC.trans ((R.mono al.jf).trans a4),Nat.le_trans R.size a5.size⟩;obtain⟨g',b1,b2⟩:=a6;rw[b1]at f;have h8:g'=b:=by simpa using f
   subst h8;rcases b2 with b2|⟨b2,_⟩;·exact c2 b2
   ·have:=R.size;omega
  go_cut [92] (λsx wx=>∃v',dU wx Wc base t (gM vv 9 v') true hs {B with hi:=H++[x]}/\(v'.ownBlock≠some b)/\wx.1[b]?=D.1[b]?/\Below base w wx/\D.1.size<=wx.1.size);case first=>
   refine eZ (S:=λw'=>w'.rangeAt b (k*3) [I x.E,I x.P,I x.S]) (λ_=>?_) (hS:=aY);refine dH 0 ?_;refine dH 1 ?_;refine dH 2 ?_;refine dH 3 ?_;refine dH 5 ?_;refine dH 6 ?_;refine dH 7 (v:=P0 (Y ⟨b,k*3,Z⟩)) ?_ (hy:=λw c=>by go_simp);refine i4 8 b (k*3) [I x.E,I x.P,I x.S] ?_ (λw c=>c);refine jC [4,9] ?_;refine .cons rfl (λK hK=>?_) ?_;focus
    (try go_simp)
    refine kr hK 9 (λK hK=>?_) aY
   rotate_left;focus
    refine .cons rfl (λK hK=>?_) .nil
    (try go_simp)
    refine kr hK 4 (λK hK=>?_) b3
   all_goals
    (try go_simp)
    refine kr hK 10 (λK hK=>?_) b3
    refine lG rfl (.tmp 84) (.tmp 89) 23 rfl base 66 i0 (.agg #[I 0,I 0,I 0]) 3 24 underlying23 co cx cO cj rfl dG (vv 9) (rN hs B 9) (rX hs B 9) eG bU ⟨D.1.size,0,Z⟩ 1 1 [I x.E,I x.P,I x.S] oG eG rfl bN (by intro u A;simp at A;rcases A with rfl|rfl|rfl<;>rfl) xG oG bz ?_
    intro v' w3 b5 bs a6
    obtain⟨dd,d7,rfl⟩:=eK b5
    obtain⟨da,d5,M,cq⟩:=HP.out _ w3 b5 bs a6
    clear b5 bs a6
    refine k1 hK (λ_=>?_) M.1;clear hK K;refine dH 11 ?_;refine dH 12 ?_
    refine dT 13 λK hK=>?_
    (try go_simp)
    refine kd hK ?_ M.2
    go_wp2_with fail
    go_meet
    exact⟨_,cq⟩
  case rest=>
  obtain⟨c6,a7,aQ,aL,N,cN⟩:=hcut;clear HP bN bU b3 aY cr aO bz R cy c3 mv;obtain⟨W6,cs⟩:∃y,y=wc:=⟨_,rfl⟩;subst cs;have aW:=dF a7;have bq:=dF N;have F:Hid (W6.ownsRow aw 66 3 (J (Y ⟨b,0,Z⟩) rc.length a0) rc.length (rc.flatMap eM.cells)):=dW ah (λg Q=>by have f:b=g:=(by simpa[Value.ownBlock] using Q);rw[←f];exact aL);have au:Hid (W6.rangeAt b ((k-1)*3) [I x0.E,I x0.P,I x0.S]):=λj u A=>(World.cell?_of_block (a:=⟨b,(k-1)*3+j,Z⟩) aL).trans (bE.out j u A);have aI:Hid (W6.rangeAt b (k*3) [I x.E,I x.P,I x.S]):=λj u A=>(World.cell?_of_block (a:=⟨b,k*3+j,Z⟩) aL).trans (ai.out j u A);have aH:b<W6.1.size:=oG;clear a7 N aL cN bE ai al ah aC;go_upto_region 15 with fail;have ct:IntKind.i64.wrap ((k:Int) - 1)=((k-1:Nat):Int):=by rw[IntWalk.i64_in _ oG];omega
  have cX:(0:Int)<=((k-1:Nat):Int)/\((k-1:Nat):Int)<(rc.length:Int):=oG;go_cut [8] (λs8 wx=>s8=.bool true/\Bw W6 wx);case first=>refine eZ (S:=λw'=>w'.rangeAt b ((k-1)*3) [I x0.E,I x0.P,I x0.S]/\w'.rangeAt b (k*3) [I x.E,I x.P,I x.S]) (λ_=>?_) (hS:=⟨au,aI⟩);refine dH 0 ?_;refine dH 1 ?_;refine dH 2 (v:=I ((k-1:Nat):Int)) ?_ (hy:=λw c=>by first|(go_simp;done)|(go_simp;rw[ct]));refine dH 3 (v:=P0 (Y ⟨b,(k-1)*3,Z⟩)) ?_ (hy:=λw c=>by go_simp);refine i4 4 b ((k-1)*3) [I x0.E,I x0.P,I x0.S] ?_ (λw c=>c.1);refine dH 5 ?_;refine dH 6 ?_;refine dH 7 (v:=P0 (Y ⟨b,k*3,Z⟩)) ?_ (hy:=λw c=>by go_simp);refine i4 8 b (k*3) [I x.E,I x.P,I x.S] ?_ (λw c=>c.2);refine dT 9 λK hK=>?_;(try go_simp);go_at_call 84;refine(Q8 x0 x _ r0.1 r1.1 r0.2.1 (r1.2.2 aJ)).mono ?_;rintro q w7 ⟨rfl,cP⟩;rw[bP.out];have O:Bw W6 w7:=b_.drew.trans cP;refine kr hK 10 (λK hK=>?_) ⟨λj u A=>(O.cell (p:=⟨b,(k-1)*3+j,Z⟩) aH).trans (au.out j u A),λj u A=>(O.cell (p:=⟨b,k*3+j,Z⟩) aH).trans (aI.out j u A)⟩;(try go_simp);refine kd hK ?_ ⟨λj u A=>(O.cell (p:=⟨b,(k-1)*3+j,Z⟩) aH).trans (au.out j u A),λj u A=>(O.cell (p:=⟨b,k*3+j,Z⟩) aH).trans (aI.out j u A)⟩;go_wp2_with fail;go_meet;exact⟨rfl,O⟩
  case rest=>
  obtain⟨rfl,O⟩:=hcut;obtain⟨W7,cB⟩:∃y,y=wc:=⟨_,rfl⟩;subst cB;have aq:=dF (aW.later O);have bB:Hid (Below base w W7):=bq.trans (O.mono aW.jf);have bT:Hid (W7.ownsRow aw 66 3 (J (Y ⟨b,0,Z⟩) rc.length a0) rc.length (rc.flatMap eM.cells)):=dW F (λg Q=>O.block g (rJ F Q));have c11:=aq.blk.cell 11;have cR:=aq.blk.free 11;simp at c11;have bY:=aq.blk.set 11 (bool true);obtain⟨m1,m2⟩:=aq.mark (f':=true) (dM.setCell W7 ⟨Wc,11,Z⟩ (bool true)) bY;have ac:=dF m1;have b8:Hid (Below base w (W7.setCell ⟨Wc,11,Z⟩ (bool true))):=bB.trans m2;have cK:Hid ((W7.setCell ⟨Wc,11,Z⟩ (bool true)).ownsRow aw 66 3 (J (Y ⟨b,0,Z⟩) rc.length a0) rc.length (rc.flatMap eM.cells)):=dW bT (λg Q=>by have f:b=g:=(by simpa[Value.ownBlock] using Q);rw[←f];exact(dM.setCell W7 ⟨Wc,11,Z⟩ (bool true)).block b bI);clear aW bq F au aI O bY m1 m2 aq bB bT;have am:∀g,(J (Y ⟨b,0,Z⟩) rc.length a0).ownBlock=some g->((gM vv 9 c6) 9).ownBlock≠some g:=by
   intro g Q;have f:b=g:=by simpa[Value.ownBlock] using Q
   rw[mE,←f];exact aQ
  have cA:=dF am;clear am;go_upto_region 17 with fail;generalize W7.setCell ⟨Wc,11,Z⟩ (bool true)=Wq at*;clear c11 cR;obtain⟨W,n⟩:∃y,y=H++[x]:=⟨_,rfl⟩;have aZ:k<W.length:=by rw[n,aE.out];simp
  have bb:W[k]=x:=by subst n;simp[aE.out]
  have aD:W=H++(rc.take (k+1)).drop H.length:=by rw[n,List.take_succ_eq_append_getElem aa,af,List.drop_append];rw[List.drop_eq_nil_of_le (by rw[List.length_take];have:=aE.out;omega),List.length_take,List.nil_append];congr 1;rw[show H.length - min k rc.length=0 by have:=aE.out;omega];rfl
  have b0:=dF aD;rw[←n]at ac;have F:=cK;have am:=cA.out;have d4:0<W.length:=oG;clear aD n;obtain⟨gh,aA,cw,ad,cu,az⟩:=ac.ones (k:=9) dG (show 0<W.length by omega);have aV:rN hs {B with hi:=W} 9=W.length:=rfl;rw[aV]at ad;have a8:Wq.rangeAt b (k*3) [I x.E,I x.P,I x.S]:=pK (λj u A=>by obtain⟨g9,c9,e9,_,l⟩:=(fM.ig F).at oG;cases e9;exact l j u A) k aa x af
  have ar:Wq.rangeAt gh (k*3) [I x.E,I x.P,I x.S]:=pK az k aZ x bb;have ai:=dF a8;have bg:=dF ar;have bj:=dF ad;have bM:(0:Int)<=(k:Int)/\(k:Int)<(W.length:Int):=oG;clear a8 ar ad az;(try clear a7);go_cut [124] (λs124 wx=>s124=.bool false/\Bw Wq wx);case first=>refine eZ (S:=λw'=>w'=Wq.drew) (λ_=>?_) (hS:=rfl);refine dH 0 ?_;refine dH 1 ?_;refine dH 2 (v:=P0 (Y ⟨b,k*3,Z⟩)) ?_ (hy:=λw c=>by go_simp);refine i4 3 b (k*3) [I x.E,I x.P,I x.S] ?_ (λw c=>by rw[c];exact ai);refine dH 4 ?_;refine dH 5 ?_;refine dH 6 ?_;refine dH 7 (v:=J (Y ⟨gh,0,Z⟩) W.length aA) ?_ (hy:=λw c=>by rw[c];have f:=bj.out;go_simp);refine dH 8 ?_;refine dH 9 (v:=P0 (Y ⟨gh,k*3,Z⟩)) ?_ (hy:=λw c=>by go_simp);refine i4 10 gh (k*3) [I x.E,I x.P,I x.S] ?_ (λw c=>by rw[c];exact bg);refine dH 11 (v:=.bool false) ?_ (hy:=λw c=>by have f:=E4 x.E x.P x.S x.E x.P x.S w;simp at f;first|(go_simp;done)|(go_simp;rw[f];rfl)|(go_simp;simp[f];done)|(simp[execOp];go_simp;rw[f]));refine dn ?_;go_wp2_with fail;go_meet;exact⟨rfl,b_.drew⟩
  case rest=>
  obtain⟨rfl,N⟩:=hcut;go_wp2_with fail;go_roundw;case rel=>exact⟨k+1,oG,rfl,⟨_,by have f:=ac.later N;rw[←b0.out];exact f,am⟩,dW F (λg Q=>N.block g (rJ F Q)),b8.trans (N.mono ac.jf)⟩
  case measure=>simp[intOf];omega
def CS.put(s:CS)(i:Nat)(r:AG.Nd×List (Int×AG.Ms)):CS:={s with ns:=s.ns.set i r.1,net:=s.4++r.2}
def Qt(hs:List Ho):Prop:=∀h∈hs,h.left = -1
structure sE(s:CS)(i:Nat)(f:Bool->AG.Nd×List (Int×AG.Ms)):Prop where
 id:∀ok,(f ok).1.id=(s.nd i).id/\(f ok).1.2=(s.nd i).2/\(f ok).1.nb=(s.nd i).nb
 ln:∀ok,(f ok).2.length<=100
def zR(z:Int×AG.Ms):(fG z).length=2:=rfl
def dU.did{w w':World}{Wc base t:Nat}{v:Nat->Value}{f:Bool}{hs:List Ho}{s:CS}{i:Nat}(h:dU w Wc base t v f hs s)(hi:i<hs.length)(b:i<s.ns.length){n:Int}{F:AG.Nd×List (Int×AG.Ms)}{ok:Bool}{l:Value}(o:jI hs[i].Kn hs[i].P t hs[i].C hs[i].left n F ok l w w')(c:F.1.id=s.ns[i].id/\F.1.2=s.ns[i].2/\F.1.nb=s.ns[i].nb):dZ w' w.1.size l (fY F.2)/\eR n F.2/\∃hs',hs'.length=hs.length/\dU w' Wc base (t+1) v f hs' {s with ns:=s.ns.set i F.1}/\Below base w w'/\((Qt hs->ok=true/\Qt hs')/\eR n F.2):=by
 obtain⟨q,d,C',y,k,p,u⟩:=o;obtain⟨a1,r⟩:=h.call (t':=t+1) hi b oG k p c;refine⟨q,d,_,sG,a1,r,λe=>?_,d⟩;obtain⟨g,j⟩:=u (e _ (List.getElem_mem hi));refine⟨g,λx m=>?_⟩;rcases List.mem_or_eq_of_mem_set m with a|a;·exact e x a
 ·rw[a];exact j
def EF(hLO:i8)(hUO:i6)(hSO:fB)(hBW:fH)(hBS:fI)(Wc base t:Nat)(hs:List Ho)(s:CS)(k i:Nat)(m:AG.Ms)(w:World)(h:CA w Wc base t true hs s)(hk:k<s.4.length)(hz:s.4[k]=((i:Int),m))(hi:i<s.ns.length)(hm:Rl m)(ht:t+2<=20000000)(aG:s.4.length<=500000000)(a7:sE s i (λok=>(s.nd i).receive m ok))(a4:∀ok,pX (s.put i ((s.nd i).receive m ok)) i):Calls pG 57 #[P0 (Y ⟨Wc,0,Z⟩),I (k:Int)] w λq w'=>q=.returned (.tuple #[])/\∃ok hs',hs'.length=hs.length/\CA w' Wc base (t+1) true hs' ((s.put i ((s.nd i).receive m ok)).look i)/\Below base w w'/\((Qt hs->ok=true/\Qt hs')/\eR (s.nd i).2 ((s.nd i).receive m ok).2):=by
 obtain⟨v,h⟩:=h;have x:i<hs.length:=by rw[h.hl];exact hi
 have aI:=h.n5;have n:s.nd i=s.ns[i]:=CS.jy hi;obtain⟨g5,aH,aL,c5,aO,a8⟩:=h.ones (k:=5) dG (show 0<s.4.length by omega);have ai:rN hs s 5=s.4.length:=rfl;rw[ai]at c5;have af:w.rangeAt g5 (k*2) [I (i:Int),.string (dL m.pk)]:=by
  intro j u hu;have hj:j<2:=by have:=(List.getElem?_eq_some_iff.1 hu).1;simpa using this
  rw[a8 _ _ (lY fG 2 zR s.4 k hk j hj),hz];show Y ([I (i:Int),.string (dL m.pk)].getD j undef)=_;rw[List.getD_eq_getElem?_getD,hu];rfl
 have av:=dF af;have N:=(Below.refl w.1.size w).alloc r_ (G #[I (i:Int),.string (dL m.pk)] 174);have HX:=dF (dI.new w #[I (i:Int),.string (dL m.pk)] 174);have HC:=dF (h.later N);have HB:Hid (Below base w (w.alloc (G #[I (i:Int),.string (dL m.pk)] 174))):=N.mono h.jf;have aF:(0:Int)<=(k:Int)/\(k:Int)<(s.4.length:Int):=oG;have Q:=dF a7;have a2:=dF a4;have HM:=dF hm;have a6:w.1.size≠Wc:=by have:=h.blk.lt;omega
 have ab:¬hs[i].al w.1.size:=λc=>by have:=((h.host i x hi).lt _ c).2;omega
 have a3:∀j∈eW,(v j).ownBlock≠some w.1.size:=λj hj c=>by have:=((h.row j hj).lt _ c).2;omega
 clear h af N a8 a7 a4 hm;go_enter func57,ntmps57;go_upto_region 1 with(refine wpList_load_mid rfl 174 _ rfl g5 (k*2) rfl [I (i:Int),.string (dL m.pk)] _ av underlying174 rfl kG ?_);generalize World.alloc _ _=W1 at*;clear c5;obtain⟨X,hX⟩:∃y,w.1.size=y:=⟨_,rfl⟩;rw[hX]at HX a6 ab a3;obtain⟨z,o,aj,c0,au,V⟩:=HC.ones (k:=0) dG (show 0<hs.length by omega);have x0:=V i (P0 (Y ⟨hs[i].Kn,0,Z⟩)) (by show(hs.map _)[i]?=_;rw[List.getElem?_map,List.getElem?_eq_getElem x];rfl);have an:rN hs s 0=hs.length:=rfl;rw[an]at c0;have aN:(0:Int)<=(i:Int)/\(i:Int)<(hs.length:Int):=oG;clear V aj;have L:=λw=>run_bytes_of_string (P:=pG) w 9 148 5 (dL m.pk) underlying9 underlying148 underlying5;have a5:=dF (⟨c0,x0⟩:W1.cell? ⟨Wc,0,Z⟩=Y (J (Y ⟨z,0,Z⟩) hs.length o)/\W1.cell? ⟨z,i,Z⟩=Y (P0 (Y ⟨hs[i].Kn,0,Z⟩)));refine eZ (S:=λw'=>w'.cell? ⟨Wc,0,Z⟩=Y (J (Y ⟨z,0,Z⟩) hs.length o)/\w'.cell? ⟨z,i,Z⟩=Y (P0 (Y ⟨hs[i].Kn,0,Z⟩))/\dI w' X #[I (i:Int),.string (dL m.pk)] 174) (λ_=>?_) (hS:=⟨c0,x0,HX.drew⟩);clear c0 x0;refine dH 0 ?_;refine dH 1 ?_;refine dH 2 ?_;refine dH 3 (v:=J (Y ⟨z,0,Z⟩) hs.length o) ?_ (hy:=λw d=>by have c:=d.1;go_simp);refine dH 4 ?_;refine dH 5 (v:=I (i:Int)) ?_ (hy:=λw d=>by have c:=d.2.2.cell 0;simp at c;go_simp);refine dH 6 (v:=P0 (Y ⟨z,i,Z⟩)) ?_ (hy:=λw d=>by go_simp);refine dH 7 (v:=P0 (Y ⟨hs[i].Kn,0,Z⟩)) ?_ (hy:=λw d=>by have c:=d.2.1;go_simp);refine dH 8 ?_;refine dH 9 (v:=.string (dL m.pk)) ?_ (hy:=λw d=>by have c:=d.2.2.cell 1;simp at c;go_simp);refine dT 10 λK hK=>?_;(try go_simp);obtain⟨cp,ah⟩:∃y,grownCap W1.drew (dL m.pk).size 0 5=y:=⟨_,rfl⟩;have aC:=(yS (m:=⟨m.k,m.f,m.e,m.b,m.wa,m.p,m.s,m.q,m.bl,m.v,none,0,m.zs⟩) ⟨HM.1,HM.2.1⟩).1;have D:gU (W1.alloc (Obj.cells (bytesRow (dL m.pk) (grownCap W1.drew (dL m.pk).size 0 5)) 5 ((bytesRow (dL m.pk) (grownCap W1.drew (dL m.pk).size 0 5)).size,(bytesRow (dL m.pk) (grownCap W1.drew (dL m.pk).size 0 5)).size+1))).drew.drew (W1.1.size+1) (J (Y ⟨W1.1.size,0,Z⟩) (dL m.pk).size (grownCap W1.drew (dL m.pk).size 0 5)) (dL m.pk).data.toList:=by have c:=BZ W1.drew (dL m.pk) (by rw[oB];have h8:m.pk.length<=171:=aC;unfold maxLen;omega) ((bytesRow (dL m.pk) (grownCap W1.drew (dL m.pk).size 0 5)).size,(bytesRow (dL m.pk) (grownCap W1.drew (dL m.pk).size 0 5)).size+1);simp at c;exact c
 have am:(W1.alloc (Obj.cells (bytesRow (dL m.pk) (grownCap W1.drew (dL m.pk).size 0 5)) 5 ((bytesRow (dL m.pk) (grownCap W1.drew (dL m.pk).size 0 5)).size,(bytesRow (dL m.pk) (grownCap W1.drew (dL m.pk).size 0 5)).size+1))).drew.drew.1.size=W1.1.size+1:=sG;have A:Bw W1 (W1.alloc (Obj.cells (bytesRow (dL m.pk) (grownCap W1.drew (dL m.pk).size 0 5)) 5 ((bytesRow (dL m.pk) (grownCap W1.drew (dL m.pk).size 0 5)).size,(bytesRow (dL m.pk) (grownCap W1.drew (dL m.pk).size 0 5)).size+1))).drew.drew:=((Below.refl W1.1.size W1).alloc r_ _).drew.drew;rw[ah]at D A am⊢;clear L;generalize (World.alloc _ _).drew.drew=W5 at*;have r:=dF (HC.later A);have O:=dF (HX.later A);have ac:z<W1.1.size:=au;have aA:=HC.blk.lt;have s1:=(A.cell (p:=⟨Wc,0,Z⟩) aA).trans a5.1;have s2:=(A.cell (p:=⟨z,i,Z⟩) ac).trans a5.2;refine kr hK 11 (λK hK=>?_) ⟨s1,s2,O⟩;(try go_simp);have ax:=r.host i x hi;have aP:hs[i].Kn<W1.1.size:=(HC.host i x hi).blk.lt;have R:(dL m.pk).data.toList=m.pk:=AX m.pk;rw[R]at D;rw[n]at a2 Q;go_at_call 91;refine(ax.receive hLO hUO hSO hBW hBS ht m HM _ ?_).mono ?_
 ·intro W hW;obtain⟨ao,ay,e1,e2,e3,e4⟩:=D;refine⟨ao,ay,e1,e2,e3,e4.imp id ?_⟩;rintro⟨g,off,e5,e6,e7⟩;have hg:g=W1.1.size:=by rw[e5]at e1;simp at e1;omega
  refine⟨g,off,e5,?_,λj hj=>(World.cell?_of_block (a:=⟨g,off+j,Z⟩) (hW.block g oG)).trans (e7 j hj)⟩;rw[hW.size];omega
 rintro q w6 ⟨l,ok,rfl,C⟩;have H:=Q.id ok;rw[n]at H;obtain⟨d1,d2,hs',a9,E,a1,aE⟩:=r.did x hi C H;have B:dI w6 X #[I (i:Int),.string (dL m.pk)] 174:=by obtain⟨_,_,C',l',_,hx,_⟩:=C;exact hx.blk O ab
 have aK:=dF E;have aw:Hid (Below base w w6):=HB.trans ((A.mono HC.jf).trans a1);have ag:=dF B;have aM:=dF d1;have ar:=dF d2;have t1:=E.cell (k:=0) dG;have U:v 0=J (Y ⟨z,0,Z⟩) hs.length o:=by have c:=r.cell (k:=0) dG;rw[s1]at c;simpa using c.symm
 rw[U]at t1;have t2:w6.cell? ⟨z,i,Z⟩=Y (P0 (Y ⟨hs[i].Kn,0,Z⟩)):=by obtain⟨_,_,C',l',_,hx,_⟩:=C;have c:=hx.kept.block z oG (λh8=>r.mg 0 dG z (by rw[U];rfl) i x h8);exact(World.cell?_of_block (a:=⟨z,i,Z⟩) c).trans s2
 refine kr hK 12 (λK hK=>?_) ⟨t1,t2,B⟩;(try go_simp);refine kd hK ?_ ⟨t1,t2,B⟩;have F:eR (hs'.length:Int) ((s.nd i).receive m ok).2:=by
  have c:=(r.ids i hi).2.1;have h8:=ar.out;rw[n];have h7:(hs'.length:Int)=s.ns[i].2:=by rw[c,a9,r.hl]
  rw[h7];exact h8
 have aJ:=Q.ln ok;have aa:=dF (uY Wc base (t+1) true hs' _ l _ W5.1.size w6 v E (by rw[n];exact d1) F (by show s.4.length+_<=_;rw[n];omega));clear C d1 d2 E a1 t1 t2 B s1 s2 D O F;go_wp2_with fail;refine aa.mono ?_;rintro q w7 ⟨rfl,M,ae,a0⟩;have ap:=dF (ag.same (a0.block X ag.lt (λc=>c.elim a6 (a3 5 dG))));have ak:=ap.cell 0;simp at ak;have e7:({({s with ns:=s.ns.set i (s.ns[i].receive m ok).1}:CS) with net:=s.4++(s.ns[i].receive m ok).2}:CS)=s.put i (s.ns[i].receive m ok):=rfl;have ad:CA w7 Wc base (t+1) true hs' (s.put i (s.ns[i].receive m ok)):=by rw[←e7];rw[n]at M;exact M
 have aD:=dF (yB hLO hUO Wc base (t+1) hs' _ i w7 ad (by show i<(s.ns.set i _).length;simpa using hi) oG (a2.out ok));have aq:=dF (aw.trans ae);clear aa M ae a0 e7 ad;go_wp2_with fail;refine aD.mono ?_;rintro q w8 ⟨rfl,aB,az⟩;go_wp2_with fail;refine bodyPost_end (v:=.tuple #[]) (by simp[results,results57,go_sem]) rfl ?_;rw[n];exact⟨rfl,ok,hs',a9,aB,aq.trans az,aE⟩
def EG(Wc base t:Nat)(f:Bool)(hs:List Ho)(s:CS)(k:Nat)(w:World)(h:CA w Wc base t f hs s)(hk:k<s.4.length)(ao:s.4.length<=2000000000):Calls pG 58 #[P0 (Y ⟨Wc,0,Z⟩),I (k:Int)] w λq w'=>q=.returned (.tuple #[])/\CA w' Wc base t f hs {s with net:=s.4.take k++s.4.drop (k+1)}/\Below base w w':=by
 obtain⟨i0,N,R,V,H⟩:=info_parts yA;obtain⟨v,h⟩:=h;obtain⟨g5,a,ag,c5,al,U⟩:=h.ones (k:=5) dG (show 0<s.4.length by omega);have aa:rN hs s 5=s.4.length:=rfl;rw[aa]at c5;have ab:rX hs s 5=s.4.flatMap fG:=rfl;rw[ab]at U;have an:s.4.length<=a/\a<=maxLen:=by
  have F:=h.row 5 dG;rw[ag]at F;rcases F.2 with⟨h8,_⟩|⟨g,c,aq,e1,_,_,e4,e5,_⟩;·cases h8
  ·cases e1;exact⟨e4,e5⟩
 have HH:=dF h;have a9:=dF U;have am:(0:Int)<=(k:Int)/\(k:Int)<=(a:Int):=oG;have L:∀l:List (Int×AG.Ms),(l.flatMap fG).length=l.length*2:=λl=>wO fG 2 zR l;have a0:∀(l:List (Int×AG.Ms)) u,u∈l.flatMap fG->u.oneCell'=true:=by intro l u d;obtain⟨z,_,hz⟩:=List.mem_flatMap.1 d;simp[fG]at hz;rcases hz with rfl|rfl<;>rfl
 have a3:∀(j:Nat) (u:Value),((s.4.take k).flatMap fG)[j]?=Y u->(s.4.flatMap fG)[j]?=Y u:=by
  intro j u d;have e:s.4.flatMap fG=(s.4.take k).flatMap fG++(s.4.drop k).flatMap fG:=by rw[←List.flatMap_append,List.take_append_drop]
  have X:=(List.getElem?_eq_some_iff.1 d).1;rw[e,List.getElem?_append_left X];exact d
 have a4:∀(j:Nat) (u:Value),((s.4.drop (k+1)).flatMap fG)[j]?=Y u->(s.4.flatMap fG)[(k+1)*2+j]?=Y u:=by
  intro j u d;have e:s.4.flatMap fG=(s.4.take (k+1)).flatMap fG++(s.4.drop (k+1)).flatMap fG:=by rw[←List.flatMap_append,List.take_append_drop]
  have aj:((s.4.take (k+1)).flatMap fG).length=(k+1)*2:=by rw[L,List.length_take,Nat.min_eq_left oG]
  rw[e,List.getElem?_append_right oG,aj,show(k+1)*2+j-(k+1)*2=j by omega];exact d
 have ai:=HH.blk.lt;have W:=dF L;have K:=dF a0;have ad:=dF a3;have ae:=dF a4;clear h U L a0 a3 a4;go_enter func58,ntmps58;go_wp2_with(at_builtin;go_loud (refine wpList_append_own _ rfl _ _ 60 rfl w.1.size 174 i0 (.agg #[I 0,.string ⟨#[]⟩]) 2 24 underlying60 N R V H rfl dG (J Z 0 0) 0 [] rfl ?c0 ⟨g5,0,Z⟩ k a ((s.4.take k).flatMap fG) rfl ?c1 ?c2 ?c3 ?c4 ?c5 ?c6 ?_));case c0=>exact World.ownsRow_nil _ _ _ _
 case c1=>rw[W.out,List.length_take,Nat.min_eq_left oG]
 case c2=>intro j u d;rw[Go.WideShapes.add_plain];simpa using a9.out j u (ad.out j u d)
 case c3=>exact K.out _
 case c4=>unfold maxLen;omega
 case c5=>omega
 case c6=>exact Nat.le_refl _
 intro v1 w1 D o av;obtain⟨a1,S,rfl⟩:=eK D;have A:Bw w w1:=⟨o.os,o.tape,o.output,o.size,λg i=>o.block g i (by simp[Value.ownBlock])⟩;have aw:=dF (HH.later A);have au:=(A.cell (p:=⟨Wc,5,Z⟩) ai).trans c5;have a7:Hid (∀(j:Nat) (u:Value),(s.4.flatMap fG)[j]?=Y u->w1.cell? ⟨g5,j,Z⟩=Y u):=λj u d=>(A.cell (p:=⟨g5,j,Z⟩) al).trans (a9.out j u d);have a5:=dF D;have b:=dF A;have ak:Hid (∀g,(J a1 k S).ownBlock=some g->w.1.size<=g):=λg i=>(D.lt g i).1;have ar:IntKind.i64.wrap ((k:Int)+1)=(k:Int)+1:=IntWalk.i64_in _ oG;clear D o A c5;by_cases ap:a=k+1;focus
  have a8:s.4.drop (k+1)=[]:=List.drop_eq_nil_of_le oG
  have af:=dF a8
  clear a8
  go_wp2_with(at_builtin;go_loud (refine wpList_append_own _ rfl _ _ 60 rfl w.1.size 174 i0 (.agg #[I 0,.string ⟨#[]⟩]) 2 24 underlying60 N R V H rfl dG (J a1 k S) k ((s.4.take k).flatMap fG) eG a5 ⟨g5,0,Z⟩ (s.4.length - (k+1)) 0 ((s.4.drop (k+1)).flatMap fG) eG ?c1 ?c2 ?c3 ?c4 ?c5 ?c6 ?_))
  case c1=>rw[W.out,List.length_drop]
  case c2=>intro j u d;rw[af.out]at d;simp at d
  case c3=>exact K.out _
  case c4=>unfold maxLen;omega
  case c5=>omega
  case c6=>exact b.size
 rotate_left;focus
  go_wp2_with(at_builtin;go_loud (refine wpList_append_own _ rfl _ _ 60 rfl w.1.size 174 i0 (.agg #[I 0,.string ⟨#[]⟩]) 2 24 underlying60 N R V H rfl dG (J a1 k S) k ((s.4.take k).flatMap fG) eG a5 ⟨g5,(k+1)*2,Z⟩ (s.4.length - (k+1)) (a - (k+1)) ((s.4.drop (k+1)).flatMap fG) eG ?c1 ?c2 ?c3 ?c4 ?c5 ?c6 ?_))
  case c1=>rw[W.out,List.length_drop]
  case c2=>intro j u d;rw[Go.WideShapes.add_plain];exact a7.out _ u (ae.out j u d)
  case c3=>exact K.out _
  case c4=>unfold maxLen;omega
  case c5=>omega
  case c6=>exact b.size
 all_goals
  intro v2 w2 B r _
  obtain⟨M,n,rfl⟩:=eK B
  have m:Bw w w2:=⟨r.os.trans b.os,r.tape.trans b.tape,r.output.trans b.output,Nat.le_trans b.size r.size,λg i=>(r.block g (Nat.lt_of_lt_of_le i b.size) (λF=>by
    have h8:=(ak.out g F.symm);omega)).trans (b.block g i)⟩
  have hK:dQ (λg=>g=Wc∨(v 5).ownBlock=some g) w (w2.setCell ⟨Wc,5,Z⟩ (J M (k+(s.4.length - (k+1))) n)):=by
   have y:=dM.setCell w2 ⟨Wc,5,Z⟩ (J M (k+(s.4.length - (k+1))) n)
   exact⟨y.os.trans m.os,y.tape.trans m.tape,y.output.trans m.output,by rw[y.size];exact m.size,λg i F=>(y.block g (λh8=>F (.inl h8))).trans (m.block g i)⟩
  have C:dI w2 Wc (jS v s.nb f) 63:=HH.blk.later m
  have ah:=C.cell 5;have ax:=C.free 5;simp at ah
  have O:=C.set 5 (J M (k+(s.4.length - (k+1))) n)
  rw[uP v s.nb f _ 5 dG]at O
  have Q:∀g,(J M (k+(s.4.length - (k+1))) n).ownBlock=some g->w.1.size<=g:=λg i=>(B.lt g i).1
  have x:(w2.setCell ⟨Wc,5,Z⟩ (J M (k+(s.4.length - (k+1))) n)).ownsRow base 174 2 (J M (k+(s.4.length - (k+1))) n) (k+(s.4.length - (k+1))) ((s.4.take k).flatMap fG++(s.4.drop (k+1)).flatMap fG):=dW (pB B HH.jf) (λg i=>(dM.setCell w2 ⟨Wc,5,Z⟩ _).block g (λF=>by have h8:=Q g i;have h7:g=Wc:=F;omega))
  have E:=dU.turn (k:=5) (v':=gM v 5 (J M (k+(s.4.length - (k+1))) n)) (f':=f) (s':={s with net:=s.4.take k++s.4.drop (k+1)}) dG HH hK (λj _ X=>pJ X) O (by
    rw[mE]
    have e1:rN hs {s with net:=s.4.take k++s.4.drop (k+1)} 5=k+(s.4.length - (k+1)):=by show(s.4.take k++s.4.drop (k+1)).length=_;simp;omega
    have e2:rX hs {s with net:=s.4.take k++s.4.drop (k+1)} 5=(s.4.take k).flatMap fG++(s.4.drop (k+1)).flatMap fG:=by show(s.4.take k++s.4.drop (k+1)).flatMap fG=_;simp
    rw[e1,e2];exact x) (λg i=>by rw[mE]at i;exact .inr (Q g i)) rfl rfl ⟨rfl,rfl⟩ (by
    intro j X ac
    simp only[eW,List.mem_cons,List.mem_nil_iff,or_false]at X
    rcases X with rfl|rfl|rfl|rfl|rfl|rfl|rfl|rfl|rfl|rfl<;>first|exact⟨rfl,rfl⟩|exact absurd rfl ac)
  have a6:=dF E
  clear B r m hK C O Q x E
  go_wp2_with fail
  refine bodyPost_end (v:=.tuple #[]) (by simp[results,results58,go_sem]) rfl ?_
  exact⟨rfl,⟨_,a6.1⟩,a6.2⟩
def kI(S B:Int)(i:Nat):Nat->Int
 |0=>0
 |t+1=>bif eU S t&&(eU B t||decide ((t:Int)=(i:Int))) then kI S B i t+2^t else kI S B i t
def yV(S B:Int)(i:Nat):∀t,0<=kI S B i t/\kI S B i t<=2^t - 1
 |0=>by simp[kI]
 |t+1=>by
  have h:=yV S B i t;have e:(2:Int)^(t+1)=2^t+2^t:=by rw[Int.pow_succ];omega
  unfold kI;cases(eU S t&&(eU B t||decide ((t:Int)=(i:Int))));·rw[cond_false,e];omega
  ·rw[cond_true,e];omega
def p2:∀t:Fin 6,(2:Int)^t.val<=32:=dG
def M9(hLO:i8)(hUO:i6)(Wc base t:Nat)(f:Bool)(hs:List Ho)(s:CS)(i:Nat)(b:Int)(w:World)(v:Nat->Value)(h:dU w Wc base t v f hs s)(a0:i<hs.length)(hi:i<s.ns.length)(ht:t<=20000000)(hb:i_ b)(n:0<s.ns[i].d.recs.length)(Q:s.ns[i].d.recs.length<=2000000000)(x:eM)(hx:s.ns[i].d.recs[s.ns[i].d.recs.length-1]' oG=x)(hS:0<=x.S/\x.S<=31):Calls pG 54 #[P0 (Y ⟨Wc,0,Z⟩),I (i:Int),I b] w λq w'=>q=.returned (I (kI x.S (eV b%32) i hs.length))/\dU w' Wc base t v f hs s/\Below base w w'/\dR (wK hs[i].C hs[i].Kn) (wK hs[i].C hs[i].Kn) w w':=by
 have m:i<hs.length:=by rw[h.hl];exact hi
 have a4:=h.n5;have a5:=h.hl;obtain⟨g0,a1,K,c0,a9,o⟩:=h.ones (k:=0) dG (show 0<hs.length by omega);have x0:=o i (P0 (Y ⟨hs[i].Kn,0,Z⟩)) (by show(hs.map _)[i]?=_;rw[List.getElem?_map,List.getElem?_eq_getElem m];rfl);have p:rN hs s 0=hs.length:=rfl;rw[p]at c0;have r:=dF ((h.host i m hi).recs hLO hUO ht);have HH:=dF h;have ag:(0:Int)<=(i:Int)/\(i:Int)<(hs.length:Int):=oG;clear h o;go_enter func54,ntmps54;go_wp2_with fail;refine r.mono ?_;rintro q w3 ⟨vr,rfl,c,u,l⟩;clear r c0 x0;have B:s.ns.set i s.ns[i]=s.ns:=List.set_getElem_self hi;obtain⟨U,q2⟩:=HH.iw (n':=s.ns[i]) m hi u l ⟨rfl,rfl,rfl⟩;rw[B]at U;have E:Hid (dU w3 Wc base t v f hs s):=U;have M:=dF q2;have H:=dF l;obtain⟨rc,j⟩:∃y,s.ns[i].d.recs=y:=⟨_,rfl⟩;have e:w3.ownsRow w.1.size 66 3 vr rc.length (rc.flatMap eM.cells):=by rw[←j];exact c
 have A:rc[rc.length-1]'(by rw[←j];omega)=x:=by subst j;exact hx
 rw[j]at n Q;obtain⟨g,ae,z,hg,D⟩:=(fM.ig e).at n;subst z;have F:=pK D (rc.length-1) oG x A;have c2:=F 2 (I x.S) rfl;have N:=E.cell (k:=0) dG;rw[K,p]at N;have a6:decide ((0:Int)<(rc.length:Int))=true:=nG;have ad:IntKind.i64.wrap ((rc.length:Int) - 1)=((rc.length-1:Nat):Int):=by rw[IntWalk.i64_in _ oG];omega
 have a2:(0:Int)<=((rc.length-1:Nat):Int)/\((rc.length-1:Nat):Int)<(rc.length:Int):=oG;have hB:0<=eV b%32/\eV b%32<=31:=oG;have V:=dF (nO b 32 w3 dG hb.1 hb.2);clear F D c e u l U q2 B A;go_upto_region 4 with fail;go_loopw [8,9] (λs8 s9 wr=>∃k:Nat,k<=hs.length/\s9=I (k:Int)/\s8=I (kI x.S (eV b%32) i k)/\wr=w3) (λs8 s9 wr=>hs.length - (intOf s9).toNat);case atStart=>exact⟨0,oG,rfl,rfl,rfl⟩
 case round=>
  obtain⟨k,a3,rfl,rfl,rfl⟩:=hrel;have hw:=yV x.S (eV b%32) i k;by_cases ac:k<hs.length
  ·have ab:decide ((k:Int)<(hs.length:Int))=true:=nG;obtain⟨b1,z⟩:∃y,eU x.S k=y:=⟨_,rfl⟩;obtain⟨b2,O⟩:∃y,eU (eV b%32) k=y:=⟨_,rfl⟩;obtain⟨L,X⟩:∃y,decide ((k:Int)=(i:Int))=y:=⟨_,rfl⟩;have HW:Hid (kI x.S (eV b%32) i (k+1)=bif b1&&(b2||L) then kI x.S (eV b%32) i k+2^k else kI x.S (eV b%32) i k):=by unfold Hid;rw[kI,z,O,X]
   have a8:(2:Int)^k<=32:=p2 ⟨k,oG⟩;have ai:(0:Int)<2^k:=Int.pow_pos dG;have aa:((k:Int)==(i:Int))=L:=by rw[←X];rfl
   have R:=dF z;have W:=dF O;generalize kI x.S (eV b%32) i k=wk at*;clear z O X;go_wp2_with fail;refine(rV x.S k _ hS oG).mono ?_;rintro q w1 ⟨rfl,a⟩;obtain rfl:=a.symm;rw[R.out];go_wp2_with fail;refine V.mono ?_;rintro q w1 ⟨rfl,a⟩;obtain rfl:=a.symm;go_wp2_with fail;refine(rV (eV b%32) k _ hB oG).mono ?_;rintro q w1 ⟨rfl,a⟩;obtain rfl:=a.symm;rw[W.out];have aj:IntKind.i64.wrap (2^k)=2^k:=IntWalk.i64_in _ oG;have a7:IntKind.i64.wrap (wk+2^k)=wk+2^k:=IntWalk.i64_in _ oG;have af:wk+2^k<9223372036854775808:=oG;cases b1<;>cases b2<;>cases L;all_goals
    go_wp2_with fail
    go_roundw
    case rel=>exact⟨k+1,oG,rfl,by rw[HW.out];first|rfl|simp,by trivial⟩
    case measure=>simp[intOf];omega
  obtain rfl:k=hs.length:=oG;have ah:decide ((hs.length:Int)<(hs.length:Int))=false:=sG;go_wp2;go_ret;exact⟨rfl,E,M,H⟩
end Go.Proofs.YtdcainmlcpafbaaGreatDoor
