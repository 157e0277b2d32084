import Derived.Test.YtdcainmlcpafbaaGreatDoorJ35
set_option linter.all false
set_option maxHeartbeats 1000000
set_option maxRecDepth 20000
namespace Go.Proofs.YtdcainmlcpafbaaGreatDoor
namespace AG
def Inv.bitn{n nb j:Int}{x:Int->Nd}{sn:Ms->Prop}{g:Gh}{u:Gv}(h:Inv n nb x sn g u)(a:0<=j)(b:j<n):∀e:Nat,(e:Int)<=(x j).d.ep->∀i,0<=i->i<5->bit (u.R e).S i->i<n
 |0,_,i,i0,i1,hb=>by have f:=h.nn;rw[show((0:Nat):Int)=0 from rfl,h.r0]at hb;have c:∀m i:Fin 6,((2:Int) ^ m.val - 1) / 2 ^ i.val%2=1->i.val<m.val:=dG;have:=c ⟨n.toNat,oG⟩ ⟨i.toNat,oG⟩ hb;simp only at this;omega
 |e+1,he,i,i0,i1,hb=>by
  have ih:=Inv.bitn h a b e oG i i0 i1;have k:=(h.known a b (e:=(e:Int)) oG oG).2;rw[show((e+1:Nat):Int)=(e:Int)+1 by omega]at hb;rcases k with k|⟨_,k⟩;·exact ih (k i i0 i1 hb)
  ·rcases k i i0 i1 hb with k|⟨m,m1,m2,m3,_⟩;·exact ih k
   ·have:=(h.ms m1).s8 (.inr m2);omega
def Inv.some{n nb j:Int}{x:Int->Nd}{sn:Ms->Prop}{g:Gh}{u:Gv}(h:Inv n nb x sn g u)(a:0<=j)(f:j<n){e:Int}(m:0<=e)(p:e<=(x j).d.ep):∃i,0<=i/\i<n/\bit (u.R e).S i:=by
 have o:=h.nn;by_cases c:e=0;·subst c;refine⟨0,oG,oG,?_⟩;rw[h.r0];have l:n=2∨n=3∨n=4∨n=5:=oG;rcases l with rfl|rfl|rfl|rfl<;>(unfold bit;decide)
 ·have k:=(h.known a f (e:=e - 1) oG oG).1;rw[show e - 1+1=e by omega]at k;have b:=k.2.2.2.2.2.2.2.1;have k1:=k.2.2.2.1;have k2:=k.2.2.2.2.1;have:=h.bitn a f e.toNat oG ((u.R e).P - 1) oG oG (by rw[show((e.toNat:Nat):Int)=e by omega];exact b);exact⟨_,oG,this,b⟩
def OY{a:Rc}{i:Int}(b:0<=a.E/\a.E<1000000000000)(hS:0<=a.S/\a.S<=31)(hi:0<=i/\i<5)(e:bit a.S i):folB a (a.E+1) (i+1) (2 ^ i.toNat)=true/\bits .andNot .i64 (2 ^ i.toNat) a.S=0:=by
 have p5:∀a:Fin 5,(1:Int)<=2 ^ a.val/\(2:Int) ^ a.val<=31/\(2:Int) ^ a.val / 2 ^ a.val%2=1:=dG;obtain⟨d,p2,c⟩:=p5 ⟨i.toNat,oG⟩;simp only at d p2 c;constructor;·refine sV hS ⟨b.1,b.2,rfl,oG,oG,d,p2,by rw[show i+1 - 1=i by omega];exact c,.inl λj g h f=>?_⟩;have:=DD hi ⟨g,h⟩ f;subst this;exact e
 ·have k:∀s:Fin 32,∀i:Fin 5,(s.val:Int) / 2 ^ i.val%2=1->bits .andNot .i64 (2 ^ i.val) (s.val:Int)=0:=by decide +kernel
  have:=k ⟨a.S.toNat,oG⟩ ⟨i.toNat,oG⟩;simp only[show((a.S.toNat:Nat):Int)=a.S by omega]at this;exact this e
def fol_two{a:Rc}{i j:Int}(h:0<=a.E/\a.E<1000000000000)(d:a.P=i+1/\a.S=2 ^ i.toNat)(hi:0<=i/\i<5)(c:0<=j/\j<5)(e:j≠i):folB a (a.E+1) (i+1) (2 ^ i.toNat+2 ^ j.toNat)=true/\bit (2 ^ i.toNat+2 ^ j.toNat) j/\(0:Int)<=2 ^ i.toNat+2 ^ j.toNat/\(2:Int) ^ i.toNat+2 ^ j.toNat<=31:=by
 have g:∀i j:Fin 5,j≠i->((1:Int)<=2 ^ i.val+2 ^ j.val/\(2:Int) ^ i.val+2 ^ j.val<=31)/\((0:Int)<=2 ^ i.val/\(2:Int) ^ i.val<=31)/\¬((2:Int) ^ i.val / 2 ^ j.val%2=1)/\∀k:Fin 5,((2:Int) ^ i.val+2 ^ j.val) / 2 ^ k.val%2=1↔(2:Int) ^ i.val / 2 ^ k.val%2=1∨k=j:=by decide +kernel
 obtain⟨⟨n,p2⟩,l,m,p5⟩:=g ⟨i.toNat,oG⟩ ⟨j.toNat,oG⟩ (λb=>e (by have:=congrArg Fin.val b;simp only at this;omega));simp only at n p2 l m;have f:∀k,0<=k->k<5->(bit (2 ^ i.toNat+2 ^ j.toNat) k↔bit (2 ^ i.toNat) k∨k=j):=λk o k1=>by
  have:=p5 ⟨k.toNat,oG⟩;simp only[Fin.mk.injEq]at this;unfold bit;rw[this];constructor
  ·rintro(b|b);·exact .inl b
   ·exact .inr oG
  ·rintro(b|b);·exact .inl b
   ·exact .inr oG
 have p:bit (2 ^ i.toNat) i:=by have g:∀a:Fin 5,(2:Int) ^ a.val / 2 ^ a.val%2=1:=dG;exact g ⟨i.toNat,oG⟩
 refine⟨sV (by rw[d.2];exact l) ⟨h.1,h.2,rfl,oG,oG,n,p2,?_,.inr ⟨d.1.symm,j,c.1,c.2,?_,λk o k1=>?_⟩⟩,(f j c.1 c.2).2 (.inr rfl),oG,p2⟩;·rw[show i+1 - 1=i by omega];exact(f i hi.1 hi.2).2 (.inl p)
 ·rw[d.2];exact m
 ·rw[d.2];exact f k o k1
section
variable {n i E B:Int} {x:Int->Nd} {rE:Rc}
def Sy.try(h:Sy n E rE B x)(u:2<=n/\n<=5)(hi:0<=i/\i<n)(K:rE.E=E/\0<=rE.S/\rE.S<=31)(hb:bit rE.S i)(hE:E<1000000000000)(hB:B+30<=1000000000000):(((x i).eu (2 ^ i.toNat) true).1.on<=0/\((x i).eu (2 ^ i.toNat) true).1.res=[])/\((∃e v,RunA n 9 (upd x i ((x i).eu (2 ^ i.toNat) true).1,((x i).eu (2 ^ i.toNat) true).2.1) (e,[])/\Vg n E rE x (i+1,2 ^ i.toNat) v/\∀k,0<=k->k<n->Le n k E v (x k) (e k))∨ (∃d,RunA n 9 (upd x i ((x i).eu (2 ^ i.toNat) true).1,((x i).eu (2 ^ i.toNat) true).2.1) (d,[])/\(∃k,(0<=k/\k<n)/\vt (x k) E≠⟨0,0,0,0⟩)/\(∀k,0<=k->k<n->Wy (x k) (d k))/\(((d i).gq true).1.on<=0/\((d i).gq true).1.res=[])/\∃e v,RunA n 9 (upd d i ((d i).gq true).1,((d i).gq true).2) (e,[])/\Vg n E rE x (i+1,2 ^ i.toNat) v/\∀k,0<=k->k<n->Le n k E v (x k) (e k))):=by
 have t:=OY (a:=rE) (i:=i) (by rw[K.1];exact⟨h.l0,hE⟩) K.2 oG hb;rw[K.1]at t;have q:=h.q i hi.1 hi.2;have l:=h.rc i hi.1 hi.2;have c:=h.pr i hi.1 hi.2;have nb:∀{p r id:Int},p<=B+10->r<=B+10->0<=id->id<5->kF p r id<=1000000000000:=λ{p r id} a1 U a3 M=>by unfold kF;split<;>omega
 obtain⟨y,b,p1,p2,W,o,p5,p6,p7,L,N,H,D,a0,X⟩:=K5 q oG (set:=2 ^ i.toNat) c.1 (by rw[l];exact t.2) (by rw[l];exact t.1) (by unfold Nd.fe;rw[q.ep,q.id];exact nb (by have:=c.2;unfold vt at this;omega) (by have:=c.1;have:=c.2;omega) hi.1 oG);rw[p1,p2];have V:=o.f;refine⟨⟨by rw[V.2.2.2.2.2.1,q.on];exact Int.le_refl _,by rw[V.2.2.2.2.2.2.1];exact q.rs⟩,?_⟩;have B0:0<=B:=Int.le_trans c.1 c.2;have run:=Sy.run 4 h u.1 u.2 hi D W o p5 p7 (by rw[L,N];exact t.1) (by rw[H];exact B0);rw[L,N]at run;rcases run with⟨d,z,g⟩|⟨e,v,z,r2,r3,r4⟩
 ·right;have j:∀k,0<=k->k<n->Wy (x k) (d k):=λk k0 k1=>by
   by_cases s:k=i;·subst s;exact o.trans g.wy
   ·exact(g.ot k (oth_mem.2 ⟨⟨k0,k1⟩,s⟩)).1.wy
  obtain⟨C,P⟩:=g.p2;have w2:=(j i hi.1 hi.2).f;have A:(vt (d i) E).pr=b:=P.pr;obtain⟨y',b',O,e2,Q,e4,e5,e6,e7,e8,e9,F,w,a5⟩:=OU P oG (by rw[w2.2.2.2.2.2.1];exact q.on) oG (by unfold Nd.fe;rw[P.ep,P.id];exact nb (by have:=A;unfold vt at this;rw[this];have:=c.2;omega) (by have:=g.rf;omega) hi.1 oG)
  have R:=Q.f;refine⟨d,z,?_,j,?_,?_⟩;·obtain⟨k,s,m⟩:=g.hi;refine⟨k,(oth_mem.1 s).1,λh9=>?_⟩;rw[h9]at m;have:b<0:=m;omega
  ·rw[O];exact⟨by rw[R.2.2.2.2.2.1,w2.2.2.2.2.2.1,q.on];exact Int.le_refl _,by rw[R.2.2.2.2.2.2.1,w2.2.2.2.2.2.2.1];exact q.rs⟩
  ·rw[O];obtain⟨e,v,a1,U,a3,M⟩:=Sy.again 4 h u.1 u.2 hi o p5 (by rw[p6];exact⟨rfl,rfl,rfl⟩) g e9 F w e2 Q e4 e6 ⟨e7,e8⟩;exact⟨e,v,a1,U,M⟩
 ·exact .inl ⟨e,v,z,r2,r4⟩
end
end AG
namespace AG
def DF(S id e q:Int):∀t,gW S id e q [] t=bits .andNot .i64 S (2 ^ id.toNat)
 |0=>rfl
 |t+1=>by show(bif decide (((8:Int),e,max 0 q,(t:Int))∈([]:List Ky)) then _ else gW S id e q [] t)=_;rw[DF S id e q t];simp
def one_op{n i E:Int}{y:Nd}(q:Qn n i E y)(hi:0<=i/\i<5)(h:y.act=true)(u:(y.d.rc E).S=2 ^ i.toNat)(r:y.d.last≠1000000000000){bl v:Int}(w:y.blk bl=true):∃f,y.operate bl v true=(f,[],0)/\f.res=[⟨y.ops+1,bl,v,E,y.d.last+1⟩]/\Qn n i E {f with res:=[]}/\f.act=true/\f.nb=y.nb/\f.d={y.d with seen:=E,last:=y.d.last+1,bk:=λb=>if b=bl then v else y.d.bk b}:=by
 have jl:y.jl (y.blk bl)=0:=by unfold Nd.jl;rw[w,if_neg (by rw[q.up];simp),if_neg (by rw[h];simp),if_neg (by simp;exact r),if_neg (by rw[q.ph,q.on];simp)]
 obtain⟨m,s⟩:∃m:Ms,m={Ms.nil with k:=7,e:=y.d.ep,q:=y.d.last+1,bl:=bl,v:=v}:=⟨_,rfl⟩;obtain⟨z,c⟩:∃z:Nd,z={y.save m true with ops:=y.ops+1,on:=y.ops+1,ow:=m,oa:=[]}:=⟨_,rfl⟩;have l:z.d={y.d with seen:=E,last:=y.d.last+1,bk:=λb=>if b=bl then v else y.d.bk b}:=by rw[c];show y.d.step m=_;rw[s,q.ep];rfl
 have j:z.d.ep=E:=by rw[l];exact q.ep
 have p:z.d.rc E=y.d.rc E:=by rw[l];rfl
 have t:gW (z.d.rc z.d.ep).S z.id z.ow.e z.ow.q z.oa z.2.toNat=0:=by
  have x:z.oa=[]:=by rw[c]
  have B:z.id=i:=by rw[c];exact q.id
  rw[x,DF,j,p,u,B];have A:∀a:Fin 5,bits .andNot .i64 (2 ^ a.val) (2 ^ a.val)=0:=by decide +kernel
  exact A ⟨i.toNat,oG⟩
 have g:z.finish={z with res:=z.res++[⟨z.on,z.ow.bl,z.ow.v,z.ow.e,z.ow.q⟩],on:=0,ow:=.nil,oa:=[]}:=by unfold Nd.finish;rw[if_pos t]
 have o:z.missing=[]:=by unfold Nd.missing;rw[t,List.filter_eq_nil_iff];intro a _;unfold eU;simp
 refine⟨z.finish,?_,?_,?_,?_,?_,?_⟩;·unfold Nd.operate;rw[if_neg (by rw[jl];simp)];dsimp only;rw[if_pos rfl,←s,←c,o];rfl
 ·rw[g];show z.res++[_]=_;rw[c];show y.res++[_]=_;rw[q.rs,s,q.ep];rfl
 ·rw[g];refine⟨?_,?_,?_,?_,?_,rfl,rfl,j⟩;·rw[c];exact q.id
  ·show z.d.id=i;rw[l];exact q.di
  ·rw[c];exact q.no
  ·rw[c];exact q.up
  ·rw[c];exact q.ph
 ·rw[g];show z.act=true;rw[c];exact h
 ·rw[g];show z.nb=y.nb;rw[c];rfl
 ·rw[g];exact l
end AG
end Go.Proofs.YtdcainmlcpafbaaGreatDoor
