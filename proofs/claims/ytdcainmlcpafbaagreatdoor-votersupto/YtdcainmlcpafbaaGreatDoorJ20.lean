import Derived.Test.YtdcainmlcpafbaaGreatDoorJ19
import Derived.Conc.MuLone
import Derived.KernelRfl
import Derived.Test.YtdcainmlcpafbaaGreatDoorJ10
set_option linter.all false
set_option maxHeartbeats 8000000
namespace Go.Proofs.YtdcainmlcpafbaaGreatDoor
open Go.RowKit
open Value renaming int->I,slice->J,pointer->P0
open Tryz renaming prog->pG
open IntKind renaming i64->T
open Option renaming none->Z,some->Y
open Obj renaming cells->G
open Value (bool)
theorem wH(low Nd St:Nat)(d:SD)(vr:Value)(Mp D H S:Nat)(va:Value)(fs:List FD)(L:Nat)(id nodes nb:Int)(act:Bool)(bs:List UInt8)(vb:Value)(f n1 n2 n3 n4 n5 n6 n7 n8:Int)(zs:List Int)(w:World)(hn:aI w Nd id nodes nb St act)(h:aF w low St d vr Mp D)(hk:aL w low D H S va fs L)(ht:aJ w)(hr:aR w w.heap.size vb bs)(hD:bD bs 7 f n1 n2 n3 n4 n5 n6 n7 n8 zs 0)(hff:(f==id)=false)(hno:decide (nodes<=f)=false)(hNd2:2<=Nd)(hSt2:2<=St)(hMp2:2<=Mp)(hS2:2<=S)(hl2:2<=low)(hn5:nodes<=5)(hF0:0<=f)(hF:f<nodes)(hne:0<d.recs.length)(hlt:d.recs.length<=1300000)(hft:eC 7 nb n7 zs.length=false):
  Calls pG 143 #[P0 (Y ⟨Nd,0,Z⟩),vb] w fun r w'=>∃l,r=.returned l/\(aZ w low Nd id nodes nb act St vr Mp D H S va L (fun d'=>d'=d) none) l w':=by
 refine kE Nd St id nodes nb act bs vb f n1 n2 n3 n4 n5 n6 n7 n8 zs w hn ht hr hD hff hno (aZ w low Nd id nodes nb act St vr Mp D H S va L (fun d'=>d'=d) none) ?_;refine lI 201 low Nd St d vr Mp D H S va fs L L (fun d'=>d'=d) id nodes nb act act 7 f n1 n2 n3 n4 n5 n6 n7 n8 zs w hn h hk ht hNd2 hSt2 hMp2 hS2 hl2 ?_;intro W la lc hb hO;refine(qA low Nd St d vr Mp D id nodes nb act 7 f n1 n2 n3 n4 n5 n6 n7 n8 la zs lc W (hn.later hb) (h.later hb) hne hlt (.inl rfl) hft).mono ?_;rintro r W1 ⟨rfl,hb1⟩;exact⟨rfl,bT.still (hn.later hb) (h.later hb) (hk.later hb) hb1 (Nat.le_refl _) rfl⟩
theorem qQ(low Nd St:Nat)(d:SD)(vr:Value)(Mp D H S:Nat)(va:Value)(fs:List FD)(L:Nat)(id nodes nb:Int)(act:Bool)(bs:List UInt8)(vb:Value)(f n1 n2 n3 n4 n5 n6 n7 n8:Int)(zs:List Int)(w:World)(hn:aI w Nd id nodes nb St act)(h:aF w low St d vr Mp D)(hk:aL w low D H S va fs L)(ht:aJ w)(hr:aR w w.heap.size vb bs)(hD:bD bs 7 f n1 n2 n3 n4 n5 n6 n7 n8 zs 0)(hff:(f==id)=false)(hno:decide (nodes<=f)=false)(hNd2:2<=Nd)(hSt2:2<=St)(hMp2:2<=Mp)(hS2:2<=S)(hl2:2<=low)(hn5:nodes<=5)(hF0:0<=f)(hF:f<nodes)(hne:0<d.recs.length)(hlt:d.recs.length<=1300000)(hft:eC 7 nb n7 zs.length=true)(hes:n1=d.seen)(hnq:act=true∨n6<d.last):
  Calls pG 143 #[P0 (Y ⟨Nd,0,Z⟩),vb] w fun r w'=>∃l,r=.returned l/\(aZ w low Nd id nodes nb act St vr Mp D H S va L (fun d'=>d'=d) none) l w':=by
 refine kE Nd St id nodes nb act bs vb f n1 n2 n3 n4 n5 n6 n7 n8 zs w hn ht hr hD hff hno (aZ w low Nd id nodes nb act St vr Mp D H S va L (fun d'=>d'=d) none) ?_;refine lI 201 low Nd St d vr Mp D H S va fs L L (fun d'=>d'=d) id nodes nb act act 7 f n1 n2 n3 n4 n5 n6 n7 n8 zs w hn h hk ht hNd2 hSt2 hMp2 hS2 hl2 ?_;intro W la lc hb hO;refine(qL low Nd St d vr Mp D id nodes nb act 7 f n1 n2 n3 n4 n5 n6 n7 n8 la zs lc W (hn.later hb) (h.later hb) hne hlt (.inl rfl) hft hes hnq).mono ?_;rintro r W1 ⟨rfl,hb1⟩;exact⟨rfl,bT.still (hn.later hb) (h.later hb) (hk.later hb) hb1 (Nat.le_refl _) rfl⟩
theorem xZ(low Nd St:Nat)(d:SD)(vr:Value)(Mp D H S:Nat)(va:Value)(fs:List FD)(L:Nat)(id nodes nb:Int)(act:Bool)(bs:List UInt8)(vb:Value)(f n1 n2 n3 n4 n5 n6 n7 n8:Int)(zs:List Int)(w:World)(hn:aI w Nd id nodes nb St act)(h:aF w low St d vr Mp D)(hk:aL w low D H S va fs L)(ht:aJ w)(hr:aR w w.heap.size vb bs)(hD:bD bs 7 f n1 n2 n3 n4 n5 n6 n7 n8 zs 0)(hff:(f==id)=false)(hno:decide (nodes<=f)=false)(hNd2:2<=Nd)(hSt2:2<=St)(hMp2:2<=Mp)(hS2:2<=S)(hl2:2<=low)(hn5:nodes<=5)(hF0:0<=f)(hF:f<nodes)(hne:0<d.recs.length)(hlt:d.recs.length<=1300000)(hft:eC 7 nb n7 zs.length=true)(hes:n1<d.seen)(he:(d.recs.length:Int) - 1<=n1):
  Calls pG 143 #[P0 (Y ⟨Nd,0,Z⟩),vb] w fun r w'=>∃l,r=.returned l/\(aZ w low Nd id nodes nb act St vr Mp D H S va L (fun d'=>d'=d) none) l w':=by
 refine kE Nd St id nodes nb act bs vb f n1 n2 n3 n4 n5 n6 n7 n8 zs w hn ht hr hD hff hno (aZ w low Nd id nodes nb act St vr Mp D H S va L (fun d'=>d'=d) none) ?_;refine lI 201 low Nd St d vr Mp D H S va fs L L (fun d'=>d'=d) id nodes nb act act 7 f n1 n2 n3 n4 n5 n6 n7 n8 zs w hn h hk ht hNd2 hSt2 hMp2 hS2 hl2 ?_;intro W la lc hb hO;refine(qM low Nd St d vr Mp D id nodes nb act 7 f n1 n2 n3 n4 n5 n6 n7 n8 la zs lc W (hn.later hb) (h.later hb) hne hlt (.inl rfl) hft hes he).mono ?_;rintro r W1 ⟨rfl,hb1⟩;exact⟨rfl,bT.still (hn.later hb) (h.later hb) (hk.later hb) hb1 (Nat.le_refl _) rfl⟩
theorem AN(low Nd St:Nat)(d:SD)(vr:Value)(Mp D H S:Nat)(va:Value)(fs:List FD)(L:Nat)(id nodes nb:Int)(act:Bool)(bs:List UInt8)(vb:Value)(f n2 n3 n4 n5 n6 n7 n8:Int)(E:Nat)(zs:List Int)(w:World)(hn:aI w Nd id nodes nb St act)(h:aF w low St d vr Mp D)(hk:aL w low D H S va fs L)(ht:aJ w)(hr:aR w w.heap.size vb bs)(hD:bD bs 7 f (E:Int) n2 n3 n4 n5 n6 n7 n8 zs 0)(hff:(f==id)=false)(hno:decide (nodes<=f)=false)(hNd2:2<=Nd)(hSt2:2<=St)(hMp2:2<=Mp)(hS2:2<=S)(hl2:2<=low)(hn5:nodes<=5)(hF0:0<=f)(hF:f<nodes)(hne:0<d.recs.length)(hlt:d.recs.length<=1300000)(hft:eC 7 nb n7 zs.length=true)(hes:(E:Int)<d.seen)(hE:E+1<d.recs.length)(hm:aN 6 id [0,(E:Int),0,0,(d.recs.getD (E+1) ⟨0,0,0⟩).P,(d.recs.getD (E+1) ⟨0,0,0⟩).S,0,0,0,0]=true):
  Calls pG 143 #[P0 (Y ⟨Nd,0,Z⟩),vb] w fun r w'=>∃l,r=.returned l/\(aZ w low Nd id nodes nb act St vr Mp D H S va L (fun d'=>d'=d) (Y (f,aT 6 id (E:Int) 0 0 (d.recs.getD (E+1) ⟨0,0,0⟩).P (d.recs.getD (E+1) ⟨0,0,0⟩).S 0 0 0 []))) l w':=by
 refine kE Nd St id nodes nb act bs vb f (E:Int) n2 n3 n4 n5 n6 n7 n8 zs w hn ht hr hD hff hno (aZ w low Nd id nodes nb act St vr Mp D H S va L (fun d'=>d'=d) (Y (f,aT 6 id (E:Int) 0 0 (d.recs.getD (E+1) ⟨0,0,0⟩).P (d.recs.getD (E+1) ⟨0,0,0⟩).S 0 0 0 []))) ?_;refine fW 201 low Nd St d vr Mp D H S va fs L L (fun d'=>d'=d) id nodes nb act act 7 f (E:Int) n2 n3 n4 n5 n6 n7 n8 zs w hn h hk ht hNd2 hSt2 hMp2 hS2 hl2 6 (E:Int) 0 0 (d.recs.getD (E+1) ⟨0,0,0⟩).P (d.recs.getD (E+1) ⟨0,0,0⟩).S 0 0 0 hn5 hF0 hF (by decide) hm ?_;intro W la lc hb hO;refine(rC low Nd St d vr Mp D id nodes nb act 7 f n2 n3 n4 n5 n6 n7 n8 la zs lc W (hn.later hb) (h.later hb) hne hlt (.inl rfl) hft E hes hE).mono ?_;rintro r W1 ⟨rfl,hb1⟩;exact⟨rfl,bT.still (hn.later hb) (h.later hb) (hk.later hb) hb1 (Nat.le_refl _) rfl⟩
theorem yA(low Nd St:Nat)(d:SD)(vr:Value)(Mp D H S:Nat)(va:Value)(fs:List FD)(L:Nat)(id nodes nb:Int)(act:Bool)(bs:List UInt8)(vb:Value)(f n1 n2 n3 n4 n5 n6 n7 n8:Int)(zs:List Int)(w:World)(hn:aI w Nd id nodes nb St act)(h:aF w low St d vr Mp D)(hk:aL w low D H S va fs L)(ht:aJ w)(hr:aR w w.heap.size vb bs)(hD:bD bs 7 f n1 n2 n3 n4 n5 n6 n7 n8 zs 0)(hff:(f==id)=false)(hno:decide (nodes<=f)=false)(hNd2:2<=Nd)(hSt2:2<=St)(hMp2:2<=Mp)(hS2:2<=S)(hl2:2<=low)(hn5:nodes<=5)(hF0:0<=f)(hF:f<nodes)(hne:0<d.recs.length)(hlt:d.recs.length<=1300000)(hft:eC 7 nb n7 zs.length=true)(hac:act=false)(hes:n1=d.seen)(hql:n6=d.last)(hm:aN 8 id [0,n1,0,0,0,0,n6,0,0,0]=true):
  Calls pG 143 #[P0 (Y ⟨Nd,0,Z⟩),vb] w fun r w'=>∃l,r=.returned l/\(aZ w low Nd id nodes nb act St vr Mp D H S va L (fun d'=>d'=d) (Y (f,aT 8 id n1 0 0 0 0 n6 0 0 []))) l w':=by
 refine kE Nd St id nodes nb act bs vb f n1 n2 n3 n4 n5 n6 n7 n8 zs w hn ht hr hD hff hno (aZ w low Nd id nodes nb act St vr Mp D H S va L (fun d'=>d'=d) (Y (f,aT 8 id n1 0 0 0 0 n6 0 0 []))) ?_;refine fW 201 low Nd St d vr Mp D H S va fs L L (fun d'=>d'=d) id nodes nb act act 7 f n1 n2 n3 n4 n5 n6 n7 n8 zs w hn h hk ht hNd2 hSt2 hMp2 hS2 hl2 8 n1 0 0 0 0 n6 0 0 hn5 hF0 hF (by decide) hm ?_;intro W la lc hb hO;refine(qN low Nd St d vr Mp D id nodes nb act 7 f n1 n2 n3 n4 n5 n6 n7 n8 la zs lc W (hn.later hb) (h.later hb) hne hlt (.inl rfl) hft hac hes hql).mono ?_;rintro r W1 ⟨rfl,hb1⟩;exact⟨rfl,bT.still (hn.later hb) (h.later hb) (hk.later hb) hb1 (Nat.le_refl _) rfl⟩
theorem yB(hSO:cU)(hBW:cV)(hBS:cS)(low Nd St:Nat)(d:SD)(vr:Value)(Mp D H S:Nat)(va:Value)(fs:List FD)(L:Nat)(id nodes nb:Int)(act:Bool)(bs:List UInt8)(vb:Value)(f n1 n2 n3 n4 n5 n6 n7 n8:Int)(zs:List Int)(w:World)(hn:aI w Nd id nodes nb St act)(h:aF w low St d vr Mp D)(hk:aL w low D H S va fs L)(ht:aJ w)(hr:aR w w.heap.size vb bs)(hD:bD bs 7 f n1 n2 n3 n4 n5 n6 n7 n8 zs 0)(hff:(f==id)=false)(hno:decide (nodes<=f)=false)(hNd2:2<=Nd)(hSt2:2<=St)(hMp2:2<=Mp)(hS2:2<=S)(hl2:2<=low)(hn5:nodes<=5)(hF0:0<=f)(hF:f<nodes)(hne:0<d.recs.length)(hlt:d.recs.length<=1300000)(hlow:low<=w.heap.size)(hL:L<=1200000000)(hlv:d.vts.length<=1300000)(hln:0<=d.lines/\d.lines<=100000000)(hre:∀r∈d.recs,0<=r.E/\r.E<=10000000000000)(hid:0<=d.id/\d.id<5)(he9:0<=n1/\n1<=1000000000000)(hfit:gG 7 n7 zs.length)(hft:eC 7 nb n7 zs.length=true)(hac:act=false)(hes:n1=d.seen)(hql:d.last<n6)(hm:aN 8 id [0,n1,0,0,0,0,n6,0,0,0]=true):
  Calls pG 143 #[P0 (Y ⟨Nd,0,Z⟩),vb] w fun r w'=>∃l,r=.returned l/\(aZ w low Nd id nodes nb act St vr Mp D H S va (dD L d) (fun d'=>∃ln,dR d ln/\d'=({d with lines:=ln}:SD).step 7 n1 n2 n4 n5 n6 n7 n8 zs) (Y (f,aT 8 id n1 0 0 0 0 n6 0 0 []))) l w':=by
 refine kE Nd St id nodes nb act bs vb f n1 n2 n3 n4 n5 n6 n7 n8 zs w hn ht hr hD hff hno (aZ w low Nd id nodes nb act St vr Mp D H S va (dD L d) (fun d'=>∃ln,dR d ln/\d'=({d with lines:=ln}:SD).step 7 n1 n2 n4 n5 n6 n7 n8 zs) (Y (f,aT 8 id n1 0 0 0 0 n6 0 0 []))) ?_;refine fW 201 low Nd St d vr Mp D H S va fs L (dD L d) (fun d'=>∃ln,dR d ln/\d'=({d with lines:=ln}:SD).step 7 n1 n2 n4 n5 n6 n7 n8 zs) id nodes nb act act 7 f n1 n2 n3 n4 n5 n6 n7 n8 zs w hn h hk ht hNd2 hSt2 hMp2 hS2 hl2 8 n1 0 0 0 0 n6 0 0 hn5 hF0 hF (by decide) hm ?_;intro W la lc hb hO;have hz:=jF hO;refine(qO hSO hBW hBS low Nd St d vr Mp D id nodes nb act 7 f n1 n2 n3 n4 n5 n6 n7 n8 la zs lc W H S va fs L (hn.later hb) (h.later hb) hne hlt (hk.later hb) (ht.below hb ht.two) hz.1 (Nat.le_trans ht.two hb.size) (Nat.le_trans hlow hb.size) hL hlv hln hSt2 (fun ad ha hh=>by have h1:=hz.2 ad ha;have h2:=h.blk.lt;omega) hre hid he9 hfit (fun ad ha hh=>by have h1:=hz.2 ad ha;have h2:=i9 h hk hh;omega) (.inl rfl) hft hac hes hql).mono ?_;rintro r W1 ⟨rfl,hnow⟩;exact⟨rfl,hnow⟩
theorem yC(hSO:cU)(hBW:cV)(hBS:cS)(low Nd St:Nat)(d:SD)(vr:Value)(Mp D H S:Nat)(va:Value)(fs:List FD)(L:Nat)(id nodes nb:Int)(act:Bool)(bs:List UInt8)(vb:Value)(f n1 n2 n3 n4 n5 n6 n7 n8:Int)(zs:List Int)(w:World)(hn:aI w Nd id nodes nb St act)(h:aF w low St d vr Mp D)(hk:aL w low D H S va fs L)(ht:aJ w)(hr:aR w w.heap.size vb bs)(hD:bD bs 7 f n1 n2 n3 n4 n5 n6 n7 n8 zs 0)(hff:(f==id)=false)(hno:decide (nodes<=f)=false)(hNd2:2<=Nd)(hSt2:2<=St)(hMp2:2<=Mp)(hS2:2<=S)(hl2:2<=low)(hn5:nodes<=5)(hF0:0<=f)(hF:f<nodes)(hne:0<d.recs.length)(hlt:d.recs.length<=1300000)(hlow:low<=w.heap.size)(hL:L<=1200000000)(hlv:d.vts.length<=1300000)(hln:0<=d.lines/\d.lines<=100000000)(hre:∀r∈d.recs,0<=r.E/\r.E<=10000000000000)(hid:0<=d.id/\d.id<5)(he9:0<=n1/\n1<=1000000000000)(hfit:gG 7 n7 zs.length)(hft:eC 7 nb n7 zs.length=true)(hes:d.seen<n1)(hm:aN 8 id [0,n1,0,0,0,0,n6,0,0,0]=true):
  Calls pG 143 #[P0 (Y ⟨Nd,0,Z⟩),vb] w fun r w'=>∃l,r=.returned l/\(aZ w low Nd id nodes nb false St vr Mp D H S va (dD L d) (fun d'=>∃ln,dR d ln/\d'=({d with lines:=ln}:SD).step 7 n1 n2 n4 n5 n6 n7 n8 zs) (Y (f,aT 8 id n1 0 0 0 0 n6 0 0 []))) l w':=by
 refine kE Nd St id nodes nb act bs vb f n1 n2 n3 n4 n5 n6 n7 n8 zs w hn ht hr hD hff hno (aZ w low Nd id nodes nb false St vr Mp D H S va (dD L d) (fun d'=>∃ln,dR d ln/\d'=({d with lines:=ln}:SD).step 7 n1 n2 n4 n5 n6 n7 n8 zs) (Y (f,aT 8 id n1 0 0 0 0 n6 0 0 []))) ?_;refine fW 201 low Nd St d vr Mp D H S va fs L (dD L d) (fun d'=>∃ln,dR d ln/\d'=({d with lines:=ln}:SD).step 7 n1 n2 n4 n5 n6 n7 n8 zs) id nodes nb act false 7 f n1 n2 n3 n4 n5 n6 n7 n8 zs w hn h hk ht hNd2 hSt2 hMp2 hS2 hl2 8 n1 0 0 0 0 n6 0 0 hn5 hF0 hF (by decide) hm ?_;intro W la lc hb hO;have hz:=jF hO;refine(qP hSO hBW hBS low Nd St d vr Mp D id nodes nb act 7 f n1 n2 n3 n4 n5 n6 n7 n8 la zs lc W H S va fs L (hn.later hb) (h.later hb) hne hlt (hk.later hb) (ht.below hb ht.two) hz.1 (Nat.le_trans ht.two hb.size) (Nat.le_trans hlow hb.size) hL hlv hln hSt2 (fun ad ha hh=>by have h1:=hz.2 ad ha;have h2:=h.blk.lt;omega) hre hid he9 hfit (fun ad ha hh=>by have h1:=hz.2 ad ha;have h2:=i9 h hk hh;omega) (.inl rfl) hft hes).mono ?_;rintro r W1 ⟨rfl,hnow⟩;exact⟨rfl,hnow⟩
theorem wI(low Nd St:Nat)(d:SD)(vr:Value)(Mp D H S:Nat)(va:Value)(fs:List FD)(L:Nat)(id nodes nb:Int)(act:Bool)(bs:List UInt8)(vb:Value)(f n1 n2 n3 n4 n5 n6 n7 n8:Int)(zs:List Int)(w:World)(hn:aI w Nd id nodes nb St act)(h:aF w low St d vr Mp D)(hk:aL w low D H S va fs L)(ht:aJ w)(hr:aR w w.heap.size vb bs)(hD:bD bs 9 f n1 n2 n3 n4 n5 n6 n7 n8 zs 0)(hff:(f==id)=false)(hno:decide (nodes<=f)=false)(hNd2:2<=Nd)(hSt2:2<=St)(hMp2:2<=Mp)(hS2:2<=S)(hl2:2<=low)(hn5:nodes<=5)(hF0:0<=f)(hF:f<nodes)(hne:0<d.recs.length)(hlt:d.recs.length<=1300000)(hft:eC 9 nb n7 zs.length=false):
  Calls pG 143 #[P0 (Y ⟨Nd,0,Z⟩),vb] w fun r w'=>∃l,r=.returned l/\(aZ w low Nd id nodes nb act St vr Mp D H S va L (fun d'=>d'=d) none) l w':=by
 refine kF Nd St id nodes nb act bs vb f n1 n2 n3 n4 n5 n6 n7 n8 zs w hn ht hr hD hff hno (aZ w low Nd id nodes nb act St vr Mp D H S va L (fun d'=>d'=d) none) ?_;refine lI 201 low Nd St d vr Mp D H S va fs L L (fun d'=>d'=d) id nodes nb act act 9 f n1 n2 n3 n4 n5 n6 n7 n8 zs w hn h hk ht hNd2 hSt2 hMp2 hS2 hl2 ?_;intro W la lc hb hO;refine(qA low Nd St d vr Mp D id nodes nb act 9 f n1 n2 n3 n4 n5 n6 n7 n8 la zs lc W (hn.later hb) (h.later hb) hne hlt (.inr rfl) hft).mono ?_;rintro r W1 ⟨rfl,hb1⟩;exact⟨rfl,bT.still (hn.later hb) (h.later hb) (hk.later hb) hb1 (Nat.le_refl _) rfl⟩
theorem qR(low Nd St:Nat)(d:SD)(vr:Value)(Mp D H S:Nat)(va:Value)(fs:List FD)(L:Nat)(id nodes nb:Int)(act:Bool)(bs:List UInt8)(vb:Value)(f n1 n2 n3 n4 n5 n6 n7 n8:Int)(zs:List Int)(w:World)(hn:aI w Nd id nodes nb St act)(h:aF w low St d vr Mp D)(hk:aL w low D H S va fs L)(ht:aJ w)(hr:aR w w.heap.size vb bs)(hD:bD bs 9 f n1 n2 n3 n4 n5 n6 n7 n8 zs 0)(hff:(f==id)=false)(hno:decide (nodes<=f)=false)(hNd2:2<=Nd)(hSt2:2<=St)(hMp2:2<=Mp)(hS2:2<=S)(hl2:2<=low)(hn5:nodes<=5)(hF0:0<=f)(hF:f<nodes)(hne:0<d.recs.length)(hlt:d.recs.length<=1300000)(hft:eC 9 nb n7 zs.length=true)(hes:n1=d.seen)(hnq:act=true∨n6<d.last):
  Calls pG 143 #[P0 (Y ⟨Nd,0,Z⟩),vb] w fun r w'=>∃l,r=.returned l/\(aZ w low Nd id nodes nb act St vr Mp D H S va L (fun d'=>d'=d) none) l w':=by
 refine kF Nd St id nodes nb act bs vb f n1 n2 n3 n4 n5 n6 n7 n8 zs w hn ht hr hD hff hno (aZ w low Nd id nodes nb act St vr Mp D H S va L (fun d'=>d'=d) none) ?_;refine lI 201 low Nd St d vr Mp D H S va fs L L (fun d'=>d'=d) id nodes nb act act 9 f n1 n2 n3 n4 n5 n6 n7 n8 zs w hn h hk ht hNd2 hSt2 hMp2 hS2 hl2 ?_;intro W la lc hb hO;refine(qL low Nd St d vr Mp D id nodes nb act 9 f n1 n2 n3 n4 n5 n6 n7 n8 la zs lc W (hn.later hb) (h.later hb) hne hlt (.inr rfl) hft hes hnq).mono ?_;rintro r W1 ⟨rfl,hb1⟩;exact⟨rfl,bT.still (hn.later hb) (h.later hb) (hk.later hb) hb1 (Nat.le_refl _) rfl⟩
theorem yD(low Nd St:Nat)(d:SD)(vr:Value)(Mp D H S:Nat)(va:Value)(fs:List FD)(L:Nat)(id nodes nb:Int)(act:Bool)(bs:List UInt8)(vb:Value)(f n1 n2 n3 n4 n5 n6 n7 n8:Int)(zs:List Int)(w:World)(hn:aI w Nd id nodes nb St act)(h:aF w low St d vr Mp D)(hk:aL w low D H S va fs L)(ht:aJ w)(hr:aR w w.heap.size vb bs)(hD:bD bs 9 f n1 n2 n3 n4 n5 n6 n7 n8 zs 0)(hff:(f==id)=false)(hno:decide (nodes<=f)=false)(hNd2:2<=Nd)(hSt2:2<=St)(hMp2:2<=Mp)(hS2:2<=S)(hl2:2<=low)(hn5:nodes<=5)(hF0:0<=f)(hF:f<nodes)(hne:0<d.recs.length)(hlt:d.recs.length<=1300000)(hft:eC 9 nb n7 zs.length=true)(hes:n1<d.seen)(he:(d.recs.length:Int) - 1<=n1):
  Calls pG 143 #[P0 (Y ⟨Nd,0,Z⟩),vb] w fun r w'=>∃l,r=.returned l/\(aZ w low Nd id nodes nb act St vr Mp D H S va L (fun d'=>d'=d) none) l w':=by
 refine kF Nd St id nodes nb act bs vb f n1 n2 n3 n4 n5 n6 n7 n8 zs w hn ht hr hD hff hno (aZ w low Nd id nodes nb act St vr Mp D H S va L (fun d'=>d'=d) none) ?_;refine lI 201 low Nd St d vr Mp D H S va fs L L (fun d'=>d'=d) id nodes nb act act 9 f n1 n2 n3 n4 n5 n6 n7 n8 zs w hn h hk ht hNd2 hSt2 hMp2 hS2 hl2 ?_;intro W la lc hb hO;refine(qM low Nd St d vr Mp D id nodes nb act 9 f n1 n2 n3 n4 n5 n6 n7 n8 la zs lc W (hn.later hb) (h.later hb) hne hlt (.inr rfl) hft hes he).mono ?_;rintro r W1 ⟨rfl,hb1⟩;exact⟨rfl,bT.still (hn.later hb) (h.later hb) (hk.later hb) hb1 (Nat.le_refl _) rfl⟩
theorem AO(low Nd St:Nat)(d:SD)(vr:Value)(Mp D H S:Nat)(va:Value)(fs:List FD)(L:Nat)(id nodes nb:Int)(act:Bool)(bs:List UInt8)(vb:Value)(f n2 n3 n4 n5 n6 n7 n8:Int)(E:Nat)(zs:List Int)(w:World)(hn:aI w Nd id nodes nb St act)(h:aF w low St d vr Mp D)(hk:aL w low D H S va fs L)(ht:aJ w)(hr:aR w w.heap.size vb bs)(hD:bD bs 9 f (E:Int) n2 n3 n4 n5 n6 n7 n8 zs 0)(hff:(f==id)=false)(hno:decide (nodes<=f)=false)(hNd2:2<=Nd)(hSt2:2<=St)(hMp2:2<=Mp)(hS2:2<=S)(hl2:2<=low)(hn5:nodes<=5)(hF0:0<=f)(hF:f<nodes)(hne:0<d.recs.length)(hlt:d.recs.length<=1300000)(hft:eC 9 nb n7 zs.length=true)(hes:(E:Int)<d.seen)(hE:E+1<d.recs.length)(hm:aN 6 id [0,(E:Int),0,0,(d.recs.getD (E+1) ⟨0,0,0⟩).P,(d.recs.getD (E+1) ⟨0,0,0⟩).S,0,0,0,0]=true):
  Calls pG 143 #[P0 (Y ⟨Nd,0,Z⟩),vb] w fun r w'=>∃l,r=.returned l/\(aZ w low Nd id nodes nb act St vr Mp D H S va L (fun d'=>d'=d) (Y (f,aT 6 id (E:Int) 0 0 (d.recs.getD (E+1) ⟨0,0,0⟩).P (d.recs.getD (E+1) ⟨0,0,0⟩).S 0 0 0 []))) l w':=by
 refine kF Nd St id nodes nb act bs vb f (E:Int) n2 n3 n4 n5 n6 n7 n8 zs w hn ht hr hD hff hno (aZ w low Nd id nodes nb act St vr Mp D H S va L (fun d'=>d'=d) (Y (f,aT 6 id (E:Int) 0 0 (d.recs.getD (E+1) ⟨0,0,0⟩).P (d.recs.getD (E+1) ⟨0,0,0⟩).S 0 0 0 []))) ?_;refine fW 201 low Nd St d vr Mp D H S va fs L L (fun d'=>d'=d) id nodes nb act act 9 f (E:Int) n2 n3 n4 n5 n6 n7 n8 zs w hn h hk ht hNd2 hSt2 hMp2 hS2 hl2 6 (E:Int) 0 0 (d.recs.getD (E+1) ⟨0,0,0⟩).P (d.recs.getD (E+1) ⟨0,0,0⟩).S 0 0 0 hn5 hF0 hF (by decide) hm ?_;intro W la lc hb hO;refine(rC low Nd St d vr Mp D id nodes nb act 9 f n2 n3 n4 n5 n6 n7 n8 la zs lc W (hn.later hb) (h.later hb) hne hlt (.inr rfl) hft E hes hE).mono ?_;rintro r W1 ⟨rfl,hb1⟩;exact⟨rfl,bT.still (hn.later hb) (h.later hb) (hk.later hb) hb1 (Nat.le_refl _) rfl⟩
theorem yE(low Nd St:Nat)(d:SD)(vr:Value)(Mp D H S:Nat)(va:Value)(fs:List FD)(L:Nat)(id nodes nb:Int)(act:Bool)(bs:List UInt8)(vb:Value)(f n1 n2 n3 n4 n5 n6 n7 n8:Int)(zs:List Int)(w:World)(hn:aI w Nd id nodes nb St act)(h:aF w low St d vr Mp D)(hk:aL w low D H S va fs L)(ht:aJ w)(hr:aR w w.heap.size vb bs)(hD:bD bs 9 f n1 n2 n3 n4 n5 n6 n7 n8 zs 0)(hff:(f==id)=false)(hno:decide (nodes<=f)=false)(hNd2:2<=Nd)(hSt2:2<=St)(hMp2:2<=Mp)(hS2:2<=S)(hl2:2<=low)(hn5:nodes<=5)(hF0:0<=f)(hF:f<nodes)(hne:0<d.recs.length)(hlt:d.recs.length<=1300000)(hft:eC 9 nb n7 zs.length=true)(hac:act=false)(hes:n1=d.seen)(hql:n6=d.last)(hm:aN 10 id [0,n1,0,0,0,0,n6,0,0,0]=true):
  Calls pG 143 #[P0 (Y ⟨Nd,0,Z⟩),vb] w fun r w'=>∃l,r=.returned l/\(aZ w low Nd id nodes nb act St vr Mp D H S va L (fun d'=>d'=d) (Y (f,aT 10 id n1 0 0 0 0 n6 0 0 []))) l w':=by
 refine kF Nd St id nodes nb act bs vb f n1 n2 n3 n4 n5 n6 n7 n8 zs w hn ht hr hD hff hno (aZ w low Nd id nodes nb act St vr Mp D H S va L (fun d'=>d'=d) (Y (f,aT 10 id n1 0 0 0 0 n6 0 0 []))) ?_;refine fW 201 low Nd St d vr Mp D H S va fs L L (fun d'=>d'=d) id nodes nb act act 9 f n1 n2 n3 n4 n5 n6 n7 n8 zs w hn h hk ht hNd2 hSt2 hMp2 hS2 hl2 10 n1 0 0 0 0 n6 0 0 hn5 hF0 hF (by decide) hm ?_;intro W la lc hb hO;refine(qN low Nd St d vr Mp D id nodes nb act 9 f n1 n2 n3 n4 n5 n6 n7 n8 la zs lc W (hn.later hb) (h.later hb) hne hlt (.inr rfl) hft hac hes hql).mono ?_;rintro r W1 ⟨rfl,hb1⟩;exact⟨rfl,bT.still (hn.later hb) (h.later hb) (hk.later hb) hb1 (Nat.le_refl _) rfl⟩
theorem yF(hSO:cU)(hBW:cV)(hBS:cS)(low Nd St:Nat)(d:SD)(vr:Value)(Mp D H S:Nat)(va:Value)(fs:List FD)(L:Nat)(id nodes nb:Int)(act:Bool)(bs:List UInt8)(vb:Value)(f n1 n2 n3 n4 n5 n6 n7 n8:Int)(zs:List Int)(w:World)(hn:aI w Nd id nodes nb St act)(h:aF w low St d vr Mp D)(hk:aL w low D H S va fs L)(ht:aJ w)(hr:aR w w.heap.size vb bs)(hD:bD bs 9 f n1 n2 n3 n4 n5 n6 n7 n8 zs 0)(hff:(f==id)=false)(hno:decide (nodes<=f)=false)(hNd2:2<=Nd)(hSt2:2<=St)(hMp2:2<=Mp)(hS2:2<=S)(hl2:2<=low)(hn5:nodes<=5)(hF0:0<=f)(hF:f<nodes)(hne:0<d.recs.length)(hlt:d.recs.length<=1300000)(hlow:low<=w.heap.size)(hL:L<=1200000000)(hlv:d.vts.length<=1300000)(hln:0<=d.lines/\d.lines<=100000000)(hre:∀r∈d.recs,0<=r.E/\r.E<=10000000000000)(hid:0<=d.id/\d.id<5)(he9:0<=n1/\n1<=1000000000000)(hfit:gG 9 n7 zs.length)(hft:eC 9 nb n7 zs.length=true)(hac:act=false)(hes:n1=d.seen)(hql:d.last<n6)(hm:aN 10 id [0,n1,0,0,0,0,n6,0,0,0]=true):
  Calls pG 143 #[P0 (Y ⟨Nd,0,Z⟩),vb] w fun r w'=>∃l,r=.returned l/\(aZ w low Nd id nodes nb act St vr Mp D H S va (dD L d) (fun d'=>∃ln,dR d ln/\d'=({d with lines:=ln}:SD).step 9 n1 n2 n4 n5 n6 n7 n8 zs) (Y (f,aT 10 id n1 0 0 0 0 n6 0 0 []))) l w':=by
 refine kF Nd St id nodes nb act bs vb f n1 n2 n3 n4 n5 n6 n7 n8 zs w hn ht hr hD hff hno (aZ w low Nd id nodes nb act St vr Mp D H S va (dD L d) (fun d'=>∃ln,dR d ln/\d'=({d with lines:=ln}:SD).step 9 n1 n2 n4 n5 n6 n7 n8 zs) (Y (f,aT 10 id n1 0 0 0 0 n6 0 0 []))) ?_;refine fW 201 low Nd St d vr Mp D H S va fs L (dD L d) (fun d'=>∃ln,dR d ln/\d'=({d with lines:=ln}:SD).step 9 n1 n2 n4 n5 n6 n7 n8 zs) id nodes nb act act 9 f n1 n2 n3 n4 n5 n6 n7 n8 zs w hn h hk ht hNd2 hSt2 hMp2 hS2 hl2 10 n1 0 0 0 0 n6 0 0 hn5 hF0 hF (by decide) hm ?_;intro W la lc hb hO;have hz:=jF hO;refine(qO hSO hBW hBS low Nd St d vr Mp D id nodes nb act 9 f n1 n2 n3 n4 n5 n6 n7 n8 la zs lc W H S va fs L (hn.later hb) (h.later hb) hne hlt (hk.later hb) (ht.below hb ht.two) hz.1 (Nat.le_trans ht.two hb.size) (Nat.le_trans hlow hb.size) hL hlv hln hSt2 (fun ad ha hh=>by have h1:=hz.2 ad ha;have h2:=h.blk.lt;omega) hre hid he9 hfit (fun ad ha hh=>by have h1:=hz.2 ad ha;have h2:=i9 h hk hh;omega) (.inr rfl) hft hac hes hql).mono ?_;rintro r W1 ⟨rfl,hnow⟩;exact⟨rfl,hnow⟩
theorem yG(hSO:cU)(hBW:cV)(hBS:cS)(low Nd St:Nat)(d:SD)(vr:Value)(Mp D H S:Nat)(va:Value)(fs:List FD)(L:Nat)(id nodes nb:Int)(act:Bool)(bs:List UInt8)(vb:Value)(f n1 n2 n3 n4 n5 n6 n7 n8:Int)(zs:List Int)(w:World)(hn:aI w Nd id nodes nb St act)(h:aF w low St d vr Mp D)(hk:aL w low D H S va fs L)(ht:aJ w)(hr:aR w w.heap.size vb bs)(hD:bD bs 9 f n1 n2 n3 n4 n5 n6 n7 n8 zs 0)(hff:(f==id)=false)(hno:decide (nodes<=f)=false)(hNd2:2<=Nd)(hSt2:2<=St)(hMp2:2<=Mp)(hS2:2<=S)(hl2:2<=low)(hn5:nodes<=5)(hF0:0<=f)(hF:f<nodes)(hne:0<d.recs.length)(hlt:d.recs.length<=1300000)(hlow:low<=w.heap.size)(hL:L<=1200000000)(hlv:d.vts.length<=1300000)(hln:0<=d.lines/\d.lines<=100000000)(hre:∀r∈d.recs,0<=r.E/\r.E<=10000000000000)(hid:0<=d.id/\d.id<5)(he9:0<=n1/\n1<=1000000000000)(hfit:gG 9 n7 zs.length)(hft:eC 9 nb n7 zs.length=true)(hes:d.seen<n1)(hm:aN 10 id [0,n1,0,0,0,0,n6,0,0,0]=true):
  Calls pG 143 #[P0 (Y ⟨Nd,0,Z⟩),vb] w fun r w'=>∃l,r=.returned l/\(aZ w low Nd id nodes nb false St vr Mp D H S va (dD L d) (fun d'=>∃ln,dR d ln/\d'=({d with lines:=ln}:SD).step 9 n1 n2 n4 n5 n6 n7 n8 zs) (Y (f,aT 10 id n1 0 0 0 0 n6 0 0 []))) l w':=by
 refine kF Nd St id nodes nb act bs vb f n1 n2 n3 n4 n5 n6 n7 n8 zs w hn ht hr hD hff hno (aZ w low Nd id nodes nb false St vr Mp D H S va (dD L d) (fun d'=>∃ln,dR d ln/\d'=({d with lines:=ln}:SD).step 9 n1 n2 n4 n5 n6 n7 n8 zs) (Y (f,aT 10 id n1 0 0 0 0 n6 0 0 []))) ?_;refine fW 201 low Nd St d vr Mp D H S va fs L (dD L d) (fun d'=>∃ln,dR d ln/\d'=({d with lines:=ln}:SD).step 9 n1 n2 n4 n5 n6 n7 n8 zs) id nodes nb act false 9 f n1 n2 n3 n4 n5 n6 n7 n8 zs w hn h hk ht hNd2 hSt2 hMp2 hS2 hl2 10 n1 0 0 0 0 n6 0 0 hn5 hF0 hF (by decide) hm ?_;intro W la lc hb hO;have hz:=jF hO;refine(qP hSO hBW hBS low Nd St d vr Mp D id nodes nb act 9 f n1 n2 n3 n4 n5 n6 n7 n8 la zs lc W H S va fs L (hn.later hb) (h.later hb) hne hlt (hk.later hb) (ht.below hb ht.two) hz.1 (Nat.le_trans ht.two hb.size) (Nat.le_trans hlow hb.size) hL hlv hln hSt2 (fun ad ha hh=>by have h1:=hz.2 ad ha;have h2:=h.blk.lt;omega) hre hid he9 hfit (fun ad ha hh=>by have h1:=hz.2 ad ha;have h2:=i9 h hk hh;omega) (.inr rfl) hft hes).mono ?_;rintro r W1 ⟨rfl,hnow⟩;exact⟨rfl,hnow⟩
theorem AP(low Nd St:Nat)(d:SD)(vr:Value)(Mp D H S:Nat)(va:Value)(fs:List FD)(L:Nat)(id nodes nb:Int)(act:Bool)(bs:List UInt8)(vb:Value)(f n1 n2 n3 n4 n5 n6 n7 n8:Int)(zs:List Int)(w:World)(hn:aI w Nd id nodes nb St act)(h:aF w low St d vr Mp D)(hk:aL w low D H S va fs L)(ht:aJ w)(hr:aR w w.heap.size vb bs)(hD:bD bs 6 f n1 n2 n3 n4 n5 n6 n7 n8 zs 0)(hff:(f==id)=false)(hno:decide (nodes<=f)=false)(hNd2:2<=Nd)(hSt2:2<=St)(hMp2:2<=Mp)(hS2:2<=S)(hl2:2<=low)(hn5:nodes<=5)(hF0:0<=f)(hF:f<nodes)(hne:0<d.recs.length)(hlt:d.recs.length<=1300000)(he9:0<=n1/\n1<=1000000000000)(hE1:-9223372036854775808<=d.lastR.E)(hE2:d.lastR.E<=9223372036854775807)(hfo:gM d.lastR.E d.lastR.P d.lastR.S (n1+1) n4 n5=false):
  Calls pG 143 #[P0 (Y ⟨Nd,0,Z⟩),vb] w fun r w'=>∃l,r=.returned l/\aZ w low Nd id nodes nb act St vr Mp D H S va L (fun d'=>d'=d) none l w':=by
 refine(tL Nd St id nodes nb act bs vb f n1 n2 n3 n4 n5 n6 n7 n8 zs w hn ht hr hD hff hno (fun w'=>aZ w low Nd id nodes nb act St vr Mp D H S va L (fun d'=>d'=d) none (J Z 0 0) w') ?_).mono ?_
 ·intro W la lc hb hO;refine(xU low Nd St d vr Mp D id nodes nb act f n1 n2 n3 n4 n5 n6 n7 n8 la zs lc W (hn.later hb) (h.later hb) hne hlt he9 hE1 hE2 hfo).mono ?_;rintro r W1 ⟨rfl,hb1⟩;exact⟨_,rfl,rfl,(bT.still (P:=(fun d'=>d'=d)) (hn.later hb) (h.later hb) (hk.later hb) hb1 (Nat.le_refl _) rfl).pre hb⟩
 ·rintro r w' ⟨rfl,hq⟩;exact⟨_,rfl,hq⟩
theorem AQ(hSO:cU)(hBW:cV)(hBS:cS)(low Nd St:Nat)(d:SD)(vr:Value)(Mp D H S:Nat)(va:Value)(fs:List FD)(L:Nat)(id nodes nb:Int)(act:Bool)(bs:List UInt8)(vb:Value)(f n1 n2 n3 n4 n5 n6 n7 n8:Int)(zs:List Int)(w:World)(hn:aI w Nd id nodes nb St act)(h:aF w low St d vr Mp D)(hk:aL w low D H S va fs L)(ht:aJ w)(hr:aR w w.heap.size vb bs)(hD:bD bs 6 f n1 n2 n3 n4 n5 n6 n7 n8 zs 0)(hff:(f==id)=false)(hno:decide (nodes<=f)=false)(hNd2:2<=Nd)(hSt2:2<=St)(hMp2:2<=Mp)(hS2:2<=S)(hl2:2<=low)(hn5:nodes<=5)(hF0:0<=f)(hF:f<nodes)(hne:0<d.recs.length)(hlt:d.recs.length<=1300000)(hlow:low<=w.heap.size)(hL:L<=1200000000)(hlv:d.vts.length<=1300000)(hln:0<=d.lines/\d.lines<=100000000)(hre:∀r∈d.recs,0<=r.E/\r.E<=10000000000000)(hid:0<=d.id/\d.id<5)(he9:0<=n1/\n1<=1000000000000)(hE1:-9223372036854775808<=d.lastR.E)(hE2:d.lastR.E<=9223372036854775807)(hfo:gM d.lastR.E d.lastR.P d.lastR.S (n1+1) n4 n5=true):
  Calls pG 143 #[P0 (Y ⟨Nd,0,Z⟩),vb] w fun r w'=>∃l,r=.returned l/\aZ w low Nd id nodes nb (d.takes (n1+1) n4) St vr Mp D H S va (dD L d) (fun d'=>∃ln,dR d ln/\d'=({d with lines:=ln}:SD).step 6 n1 n2 n4 n5 n6 n7 n8 zs) none l w':=by
 refine(tL Nd St id nodes nb act bs vb f n1 n2 n3 n4 n5 n6 n7 n8 zs w hn ht hr hD hff hno (fun w'=>aZ w low Nd id nodes nb (d.takes (n1+1) n4) St vr Mp D H S va (dD L d) (fun d'=>∃ln,dR d ln/\d'=({d with lines:=ln}:SD).step 6 n1 n2 n4 n5 n6 n7 n8 zs) none (J Z 0 0) w') ?_).mono ?_
 ·intro W la lc hb hO;have hz:=jF hO;refine(xV hSO hBW hBS low Nd St d vr Mp D id nodes nb act f n1 n2 n3 n4 n5 n6 n7 n8 la zs lc W H S va fs L (hn.later hb) (h.later hb) hne hlt (hk.later hb) (ht.below hb ht.two) hz.1 (Nat.le_trans ht.two hb.size) (Nat.le_trans hlow hb.size) hL hlv hln hSt2 (fun ad ha hh=>by have h1:=hz.2 ad ha;have h2:=h.blk.lt;omega) hre hid he9 (fun ad ha hh=>by have h1:=hz.2 ad ha;have h2:=i9 h hk hh;omega) hE1 hE2 hfo).mono ?_;rintro r W1 ⟨rfl,hnow⟩;exact⟨_,rfl,rfl,hnow.pre hb⟩
 ·rintro r w' ⟨rfl,hq⟩;exact⟨_,rfl,hq⟩
theorem yH(low Nd St:Nat)(d:SD)(vr:Value)(Mp D H S:Nat)(va:Value)(fs:List FD)(L:Nat)(id nodes nb:Int)(act:Bool)(bs:List UInt8)(vb:Value)(k f n1 n2 n3 n4 n5 n6 n7 n8:Int)(zs:List Int)(w:World)(hn:aI w Nd id nodes nb St act)(h:aF w low St d vr Mp D)(hk:aL w low D H S va fs L)(ht:aJ w)(hr:aR w w.heap.size vb bs)(hD:bD bs k f n1 n2 n3 n4 n5 n6 n7 n8 zs 2):
  Calls pG 143 #[P0 (Y ⟨Nd,0,Z⟩),vb] w fun r w'=>∃l,r=.returned l/\aZ w low Nd id nodes nb act St vr Mp D H S va L (fun d'=>d'=d) none l w':=by
 refine(AE Nd St id nodes nb act bs vb k f n1 n2 n3 n4 n5 n6 n7 n8 zs w hn ht hr hD).mono ?_;rintro r w' ⟨rfl,hb⟩;exact⟨_,rfl,rfl,bT.still hn h hk hb (Nat.le_refl _) rfl⟩
theorem yI(low Nd St:Nat)(d:SD)(vr:Value)(Mp D H S:Nat)(va:Value)(fs:List FD)(L:Nat)(id nodes nb:Int)(act:Bool)(bs:List UInt8)(vb:Value)(k f n1 n2 n3 n4 n5 n6 n7 n8:Int)(zs:List Int)(w:World)(hn:aI w Nd id nodes nb St act)(h:aF w low St d vr Mp D)(hk:aL w low D H S va fs L)(ht:aJ w)(hr:aR w w.heap.size vb bs)(hD:bD bs k f n1 n2 n3 n4 n5 n6 n7 n8 zs 0)(hff:(f==id)=true):
  Calls pG 143 #[P0 (Y ⟨Nd,0,Z⟩),vb] w fun r w'=>∃l,r=.returned l/\aZ w low Nd id nodes nb act St vr Mp D H S va L (fun d'=>d'=d) none l w':=by
 refine(AF Nd St id nodes nb act bs vb k f n1 n2 n3 n4 n5 n6 n7 n8 zs w hn ht hr hD hff).mono ?_;rintro r w' ⟨rfl,hb⟩;exact⟨_,rfl,rfl,bT.still hn h hk hb (Nat.le_refl _) rfl⟩
theorem AR(low Nd St:Nat)(d:SD)(vr:Value)(Mp D H S:Nat)(va:Value)(fs:List FD)(L:Nat)(id nodes nb:Int)(act:Bool)(bs:List UInt8)(vb:Value)(k f n1 n2 n3 n4 n5 n6 n7 n8:Int)(zs:List Int)(w:World)(hn:aI w Nd id nodes nb St act)(h:aF w low St d vr Mp D)(hk:aL w low D H S va fs L)(ht:aJ w)(hr:aR w w.heap.size vb bs)(hD:bD bs k f n1 n2 n3 n4 n5 n6 n7 n8 zs 0)(hff:(f==id)=false)(hno:decide (nodes<=f)=true):
  Calls pG 143 #[P0 (Y ⟨Nd,0,Z⟩),vb] w fun r w'=>∃l,r=.returned l/\aZ w low Nd id nodes nb act St vr Mp D H S va L (fun d'=>d'=d) none l w':=by
 refine(CB Nd St id nodes nb act bs vb k f n1 n2 n3 n4 n5 n6 n7 n8 zs w hn ht hr hD hff hno).mono ?_;rintro r w' ⟨rfl,hb⟩;exact⟨_,rfl,rfl,bT.still hn h hk hb (Nat.le_refl _) rfl⟩
theorem EG(low Nd St:Nat)(d:SD)(vr:Value)(Mp D H S:Nat)(va:Value)(fs:List FD)(L:Nat)(id nodes nb:Int)(act:Bool)(bs:List UInt8)(vb:Value)(f n1 n2 n3 n4 n5 n6 n7 n8:Int)(zs:List Int)(w:World)(hn:aI w Nd id nodes nb St act)(h:aF w low St d vr Mp D)(hk:aL w low D H S va fs L)(ht:aJ w)(hr:aR w w.heap.size vb bs)(hD:bD bs 2 f n1 n2 n3 n4 n5 n6 n7 n8 zs 0)(hff:(f==id)=false)(hno:decide (nodes<=f)=false)(hNd2:2<=Nd)(hSt2:2<=St)(hMp2:2<=Mp)(hS2:2<=S)(hl2:2<=low)(hn5:nodes<=5)(hF0:0<=f)(hF:f<nodes)(hne:0<d.recs.length)(hlt:d.recs.length<=1300000):
  Calls pG 143 #[P0 (Y ⟨Nd,0,Z⟩),vb] w fun r w'=>∃l,r=.returned l/\aZ w low Nd id nodes nb act St vr Mp D H S va L (fun d'=>d'=d) none l w':=by
 refine(F6 Nd St id nodes nb act bs vb f n1 n2 n3 n4 n5 n6 n7 n8 zs w hn ht hr hD hff hno).mono ?_;rintro r w' ⟨rfl,hb⟩;exact⟨_,rfl,rfl,bT.still hn h hk hb (Nat.le_refl _) rfl⟩
theorem EH(low Nd St:Nat)(d:SD)(vr:Value)(Mp D H S:Nat)(va:Value)(fs:List FD)(L:Nat)(id nodes nb:Int)(act:Bool)(bs:List UInt8)(vb:Value)(f n1 n2 n3 n4 n5 n6 n7 n8:Int)(zs:List Int)(w:World)(hn:aI w Nd id nodes nb St act)(h:aF w low St d vr Mp D)(hk:aL w low D H S va fs L)(ht:aJ w)(hr:aR w w.heap.size vb bs)(hD:bD bs 4 f n1 n2 n3 n4 n5 n6 n7 n8 zs 0)(hff:(f==id)=false)(hno:decide (nodes<=f)=false)(hNd2:2<=Nd)(hSt2:2<=St)(hMp2:2<=Mp)(hS2:2<=S)(hl2:2<=low)(hn5:nodes<=5)(hF0:0<=f)(hF:f<nodes)(hne:0<d.recs.length)(hlt:d.recs.length<=1300000):
  Calls pG 143 #[P0 (Y ⟨Nd,0,Z⟩),vb] w fun r w'=>∃l,r=.returned l/\aZ w low Nd id nodes nb act St vr Mp D H S va L (fun d'=>d'=d) none l w':=by
 refine(F7 Nd St id nodes nb act bs vb f n1 n2 n3 n4 n5 n6 n7 n8 zs w hn ht hr hD hff hno).mono ?_;rintro r w' ⟨rfl,hb⟩;exact⟨_,rfl,rfl,bT.still hn h hk hb (Nat.le_refl _) rfl⟩
theorem EI(low Nd St:Nat)(d:SD)(vr:Value)(Mp D H S:Nat)(va:Value)(fs:List FD)(L:Nat)(id nodes nb:Int)(act:Bool)(bs:List UInt8)(vb:Value)(f n1 n2 n3 n4 n5 n6 n7 n8:Int)(zs:List Int)(w:World)(hn:aI w Nd id nodes nb St act)(h:aF w low St d vr Mp D)(hk:aL w low D H S va fs L)(ht:aJ w)(hr:aR w w.heap.size vb bs)(hD:bD bs 5 f n1 n2 n3 n4 n5 n6 n7 n8 zs 0)(hff:(f==id)=false)(hno:decide (nodes<=f)=false)(hNd2:2<=Nd)(hSt2:2<=St)(hMp2:2<=Mp)(hS2:2<=S)(hl2:2<=low)(hn5:nodes<=5)(hF0:0<=f)(hF:f<nodes)(hne:0<d.recs.length)(hlt:d.recs.length<=1300000):
  Calls pG 143 #[P0 (Y ⟨Nd,0,Z⟩),vb] w fun r w'=>∃l,r=.returned l/\aZ w low Nd id nodes nb act St vr Mp D H S va L (fun d'=>d'=d) none l w':=by
 refine(F8 Nd St id nodes nb act bs vb f n1 n2 n3 n4 n5 n6 n7 n8 zs w hn ht hr hD hff hno low d vr Mp D h hne hlt).mono ?_;rintro r w' ⟨rfl,hb⟩;exact⟨_,rfl,rfl,bT.still hn h hk hb (Nat.le_refl _) rfl⟩
theorem EJ(low Nd St:Nat)(d:SD)(vr:Value)(Mp D H S:Nat)(va:Value)(fs:List FD)(L:Nat)(id nodes nb:Int)(act:Bool)(bs:List UInt8)(vb:Value)(f n1 n2 n3 n4 n5 n6 n7 n8:Int)(zs:List Int)(w:World)(hn:aI w Nd id nodes nb St act)(h:aF w low St d vr Mp D)(hk:aL w low D H S va fs L)(ht:aJ w)(hr:aR w w.heap.size vb bs)(hD:bD bs 8 f n1 n2 n3 n4 n5 n6 n7 n8 zs 0)(hff:(f==id)=false)(hno:decide (nodes<=f)=false)(hNd2:2<=Nd)(hSt2:2<=St)(hMp2:2<=Mp)(hS2:2<=S)(hl2:2<=low)(hn5:nodes<=5)(hF0:0<=f)(hF:f<nodes)(hne:0<d.recs.length)(hlt:d.recs.length<=1300000):
  Calls pG 143 #[P0 (Y ⟨Nd,0,Z⟩),vb] w fun r w'=>∃l,r=.returned l/\aZ w low Nd id nodes nb act St vr Mp D H S va L (fun d'=>d'=d) none l w':=by
 refine(F9 Nd St id nodes nb act bs vb f n1 n2 n3 n4 n5 n6 n7 n8 zs w hn ht hr hD hff hno).mono ?_;rintro r w' ⟨rfl,hb⟩;exact⟨_,rfl,rfl,bT.still hn h hk hb (Nat.le_refl _) rfl⟩
theorem CC(low Nd St:Nat)(d:SD)(vr:Value)(Mp D H S:Nat)(va:Value)(fs:List FD)(L:Nat)(id nodes nb:Int)(act:Bool)(bs:List UInt8)(vb:Value)(f n1 n2 n3 n4 n5 n6 n7 n8:Int)(zs:List Int)(w:World)(hn:aI w Nd id nodes nb St act)(h:aF w low St d vr Mp D)(hk:aL w low D H S va fs L)(ht:aJ w)(hr:aR w w.heap.size vb bs)(hD:bD bs 10 f n1 n2 n3 n4 n5 n6 n7 n8 zs 0)(hff:(f==id)=false)(hno:decide (nodes<=f)=false)(hNd2:2<=Nd)(hSt2:2<=St)(hMp2:2<=Mp)(hS2:2<=S)(hl2:2<=low)(hn5:nodes<=5)(hF0:0<=f)(hF:f<nodes)(hne:0<d.recs.length)(hlt:d.recs.length<=1300000):
  Calls pG 143 #[P0 (Y ⟨Nd,0,Z⟩),vb] w fun r w'=>∃l,r=.returned l/\aZ w low Nd id nodes nb act St vr Mp D H S va L (fun d'=>d'=d) none l w':=by
 refine(EF Nd St id nodes nb act bs vb f n1 n2 n3 n4 n5 n6 n7 n8 zs w hn ht hr hD hff hno).mono ?_;rintro r w' ⟨rfl,hb⟩;exact⟨_,rfl,rfl,bT.still hn h hk hb (Nat.le_refl _) rfl⟩
abbrev GA:Go.Conc.Locks.MuLink:={lock:=59,unlock:=60,ilock:=92,iunlock:=93,lockSlow:=148,unlockSlow:=151,disable:=144,enable:=146,acquire:=147,relMerge:=149,cas32:=145,add32:=150,tMutex:=131,tIMutex:=129,tPMutex:=183,tPIMutex:=254,tPI32:=256,tUP:=258,tNoCopy:=126,tU32:=127}
theorem tS:Go.Conc.Locks.MuLib pG GA:=
 ⟨Tryz.func59,Tryz.func60,Tryz.func92,Tryz.func93,Tryz.func144,Tryz.func146,Tryz.func147,Tryz.func149,Tryz.func145,Tryz.func150,Tryz.underlying129,Tryz.runUnderlying129,Tryz.sizeOf129,Tryz.isAgg129,Tryz.zeroValue129,Tryz.underlying131,Tryz.runUnderlying131,Tryz.sizeOf131,Tryz.isAgg131,Tryz.zeroValue131,Tryz.underlying183,Tryz.runUnderlying183,Tryz.sizeOf183,Tryz.isAgg183,Tryz.zeroValue183,Tryz.underlying254,Tryz.runUnderlying254,Tryz.sizeOf254,Tryz.isAgg254,Tryz.zeroValue254,Tryz.underlying256,Tryz.runUnderlying256,Tryz.sizeOf256,Tryz.isAgg256,Tryz.zeroValue256,Tryz.underlying258,Tryz.runUnderlying258,Tryz.sizeOf258,Tryz.isAgg258,Tryz.zeroValue258,Tryz.underlying126,Tryz.runUnderlying126,Tryz.sizeOf126,Tryz.isAgg126,Tryz.zeroValue126,Tryz.underlying21,Tryz.runUnderlying21,Tryz.sizeOf21,Tryz.isAgg21,Tryz.zeroValue21,(by kernel_rfl)⟩
def fK:Prop:=∀(a:Addr) (w:World),w.cell? a=Y (.int .i32 0)->w.frozen? a=false->Calls pG 59 #[P0 (Y a)] w fun e w'=>e=.returned (.tuple #[])/\w'=w.setCell a (.int .i32 1)
def fJ:Prop:=∀(a:Addr) (u:FrameMode) (w:World),w.cell? a=Y (.int .i32 1)->w.frozen? a=false->CallsD pG 60 #[P0 (Y a)] u w fun e u' w'=>u'=u/\(e=.returned (.tuple #[])/\w'=w.setCell a (.int .i32 0))
theorem IU:fK:=fun a w hc hz=>Go.MuLone.lock_free tS a w hc hz
theorem EK:fJ:=fun a u w hc hz=>Go.MuLone.unlock_deferred tS a u w hc hz
section
set_option maxRecDepth 20000
theorem yJ(Nd St:Nat)(id nodes nb:Int)(act:Bool)(w:World)(hn:aI w Nd id nodes nb St act):
  Calls pG 61 #[P0 (Y ⟨Nd,0,Z⟩)] w fun r w'=>r=.returned (.bool act)/\w'=w:=by
 have c5:=hn.blk.cell 5;simp at c5;go_enter Tryz.func61,Tryz.ntmps61;go_wp2;go_ret;exact⟨rfl,rfl⟩
theorem wJ(low St:Nat)(d:SD)(vr:Value)(Mp D:Nat)(w:World)(h:aF w low St d vr Mp D)(hne:0<d.recs.length)(hlt:d.recs.length<=100000000):
  Calls pG 94 #[P0 (Y ⟨St,0,Z⟩)] w fun r w'=>∃v,r=.returned v/\w'.ownsRow w.heap.size 66 3 v d.recs.length (d.recs.flatMap aM.cells)/\Below w.heap.size w w':=by
 have c1:=h.blk.cell 1;simp at c1;have HR:=aA (aP.of_owns h.rcs);clear h;go_enter Tryz.func94,Tryz.ntmps94
 go_wp2_with(go_at_call 152;refine(zX d.recs vr w HR.out hne hlt).mono ?_;rintro r w1 ⟨v,rfl,ho,hb⟩)
 go_ret;exact⟨_,rfl,ho,hb⟩
theorem wK(Nd:Nat)(id nodes nb:Int)(act:Bool)(low St:Nat)(d:SD)(vr:Value)(Mp D:Nat)(w:World)(hn:aI w Nd id nodes nb St act)(h:aF w low St d vr Mp D)(hne:0<d.recs.length)(hlt:d.recs.length<=100000000):
  Calls pG 62 #[P0 (Y ⟨Nd,0,Z⟩)] w fun r w'=>∃v,r=.returned v/\w'.ownsRow w.heap.size 66 3 v d.recs.length (d.recs.flatMap aM.cells)/\Below w.heap.size w w':=by
 have c3:=hn.blk.cell 3;simp at c3;have HS:=aA h;have s0:=h.blk.cell 0;simp at s0;clear h hn;go_enter Tryz.func62,Tryz.ntmps62
 go_wp2_with(go_at_call 94;refine(wJ low St d vr Mp D w HS.out hne hlt).mono ?_;rintro r w1 ⟨v,rfl,ho,hb⟩)
 go_ret;exact⟨_,rfl,ho,hb⟩
theorem EL(w:World):
  Calls pG 218 #[.string (aC [])] w fun r w'=>r=.returned (.tuple #[J Z 0 0,.bool true])/\w'=w:=by
 have hlen:(aC []).size=0:=rfl;go_enter Tryz.func218,Tryz.ntmps218;go_wp2
 go_loopw [0,2] (fun s0 s2 wr=>s0=.string (aC [])/\s2=J Z 0 0/\wr=w) (fun _ _ _=>0)
 case atStart=>exact⟨rfl,rfl,rfl⟩
 case round=>
  obtain⟨rfl,rfl,rfl⟩:=hrel;go_wp2
  go_ret2
  exact⟨rfl,rfl⟩
theorem mR(w:World)(cs:Array Value)(ss:Int):((((w.alloc (G cs 198)).alloc (G #[I T 0,I T 0,I T ss] 66)).alloc (Obj.map #[] 0)).ownsRow w.heap.size 66 3 (J (Y ⟨w.heap.size+1,0,Z⟩) 1 1) 1 [I T 0,I T 0,I T ss])/\VM (((w.alloc (G cs 198)).alloc (G #[I T 0,I T 0,I T ss] 66)).alloc (Obj.map #[] 0)) (w.heap.size+1+1) []/\Below w.heap.size w (((w.alloc (G cs 198)).alloc (G #[I T 0,I T 0,I T ss] 66)).alloc (Obj.map #[] 0)):=by
 have s1:(w.alloc (G cs 198)).heap.size=w.heap.size+1:=by simp
 have s2:((w.alloc (G cs 198)).alloc (G #[I T 0,I T 0,I T ss] 66)).heap.size=w.heap.size+1+1:=by simp
 have h1:=(aB.new (w.alloc (G cs 198)) #[I T 0,I T 0,I T ss] 66).old (Obj.map #[] 0);rw[s1]at h1;have h2:=heap_alloc_new ((w.alloc (G cs 198)).alloc (G #[I T 0,I T 0,I T ss] 66)) (Obj.map #[] 0);rw[s2]at h2;refine⟨⟨rfl,.inr ⟨w.heap.size+1,1,_,rfl,by omega,h1.blk,Nat.le_refl _,by decide,rfl,rfl⟩⟩,⟨#[],0,h2,rfl,?_⟩,?_⟩
 ·exact⟨fun b hb=>by simp at hb,by simp⟩
 ·exact(((Below.refl w.heap.size w).alloc (Nat.le_refl _) _).alloc (by rw[s1];omega) _).alloc (by rw[s2];omega) _
theorem wL(id:Int)(w:World):
  Calls pG 219 #[I T id,I T 2] w fun r w'=>∃(vr:Value) (Mp:Nat),r=.returned (.agg #[I T id,vr,Value.map (Y Mp),I T 0,I T 0,I T 0,I T 0,I T 0,I T 0])/\w'.ownsRow w.heap.size 66 3 vr 1 [I T 0,I T 0,I T 3]/\VM w' Mp []/\w.heap.size<=Mp/\Below w.heap.size w w':=by
 have HW:Hid (∀cs,_):=fun cs=>mR w cs 3;have hmm:=@run_makeMap pG;go_enter Tryz.func219,Tryz.ntmps219;go_wp2;have h9:=HW.out #[I T id,J (Y ⟨w.heap.size+1,0,Z⟩) 1 1,Value.map (Y (w.heap.size+1+1)),I T 0,I T 0,I T 0,I T 0,I T 0,I T 0];exact bodyPost_ret (v:=.agg #[I T id,J (Y ⟨w.heap.size+1,0,Z⟩) 1 1,Value.map (Y (w.heap.size+1+1)),I T 0,I T 0,I T 0,I T 0,I T 0,I T 0]) (by simp[results,Tryz.results219,go_sem]) rfl ⟨_,_,rfl,h9.1,h9.2.1,by omega,h9.2.2⟩
theorem wM(id:Int)(w:World):
  Calls pG 219 #[I T id,I T 3] w fun r w'=>∃(vr:Value) (Mp:Nat),r=.returned (.agg #[I T id,vr,Value.map (Y Mp),I T 0,I T 0,I T 0,I T 0,I T 0,I T 0])/\w'.ownsRow w.heap.size 66 3 vr 1 [I T 0,I T 0,I T 7]/\VM w' Mp []/\w.heap.size<=Mp/\Below w.heap.size w w':=by
 have HW:Hid (∀cs,_):=fun cs=>mR w cs 7;have hmm:=@run_makeMap pG;go_enter Tryz.func219,Tryz.ntmps219;go_wp2;have h9:=HW.out #[I T id,J (Y ⟨w.heap.size+1,0,Z⟩) 1 1,Value.map (Y (w.heap.size+1+1)),I T 0,I T 0,I T 0,I T 0,I T 0,I T 0];exact bodyPost_ret (v:=.agg #[I T id,J (Y ⟨w.heap.size+1,0,Z⟩) 1 1,Value.map (Y (w.heap.size+1+1)),I T 0,I T 0,I T 0,I T 0,I T 0,I T 0]) (by simp[results,Tryz.results219,go_sem]) rfl ⟨_,_,rfl,h9.1,h9.2.1,by omega,h9.2.2⟩
theorem wN(id:Int)(w:World):
  Calls pG 219 #[I T id,I T 4] w fun r w'=>∃(vr:Value) (Mp:Nat),r=.returned (.agg #[I T id,vr,Value.map (Y Mp),I T 0,I T 0,I T 0,I T 0,I T 0,I T 0])/\w'.ownsRow w.heap.size 66 3 vr 1 [I T 0,I T 0,I T 15]/\VM w' Mp []/\w.heap.size<=Mp/\Below w.heap.size w w':=by
 have HW:Hid (∀cs,_):=fun cs=>mR w cs 15;have hmm:=@run_makeMap pG;go_enter Tryz.func219,Tryz.ntmps219;go_wp2;have h9:=HW.out #[I T id,J (Y ⟨w.heap.size+1,0,Z⟩) 1 1,Value.map (Y (w.heap.size+1+1)),I T 0,I T 0,I T 0,I T 0,I T 0,I T 0];exact bodyPost_ret (v:=.agg #[I T id,J (Y ⟨w.heap.size+1,0,Z⟩) 1 1,Value.map (Y (w.heap.size+1+1)),I T 0,I T 0,I T 0,I T 0,I T 0,I T 0]) (by simp[results,Tryz.results219,go_sem]) rfl ⟨_,_,rfl,h9.1,h9.2.1,by omega,h9.2.2⟩
theorem wO(id:Int)(w:World):
  Calls pG 219 #[I T id,I T 5] w fun r w'=>∃(vr:Value) (Mp:Nat),r=.returned (.agg #[I T id,vr,Value.map (Y Mp),I T 0,I T 0,I T 0,I T 0,I T 0,I T 0])/\w'.ownsRow w.heap.size 66 3 vr 1 [I T 0,I T 0,I T 31]/\VM w' Mp []/\w.heap.size<=Mp/\Below w.heap.size w w':=by
 have HW:Hid (∀cs,_):=fun cs=>mR w cs 31;have hmm:=@run_makeMap pG;go_enter Tryz.func219,Tryz.ntmps219;go_wp2;have h9:=HW.out #[I T id,J (Y ⟨w.heap.size+1,0,Z⟩) 1 1,Value.map (Y (w.heap.size+1+1)),I T 0,I T 0,I T 0,I T 0,I T 0,I T 0];exact bodyPost_ret (v:=.agg #[I T id,J (Y ⟨w.heap.size+1,0,Z⟩) 1 1,Value.map (Y (w.heap.size+1+1)),I T 0,I T 0,I T 0,I T 0,I T 0,I T 0]) (by simp[results,Tryz.results219,go_sem]) rfl ⟨_,_,rfl,h9.1,h9.2.1,by omega,h9.2.2⟩
theorem uW(id nodes ss:Int)(w:World)(hs:(nodes=2/\ss=3)∨(nodes=3/\ss=7)∨(nodes=4/\ss=15)∨(nodes=5/\ss=31)):
  Calls pG 219 #[I T id,I T nodes] w fun r w'=>∃(vr:Value) (Mp:Nat),r=.returned (.agg #[I T id,vr,Value.map (Y Mp),I T 0,I T 0,I T 0,I T 0,I T 0,I T 0])/\w'.ownsRow w.heap.size 66 3 vr 1 [I T 0,I T 0,I T ss]/\VM w' Mp []/\w.heap.size<=Mp/\Below w.heap.size w w':=by
 rcases hs with⟨rfl,rfl⟩|⟨rfl,rfl⟩|⟨rfl,rfl⟩|⟨rfl,rfl⟩
 ·exact wL id w
 ·exact wM id w
 ·exact wN id w
 ·exact wO id w
theorem CD(low:Nat)(id nodes ss:Int)(D H S:Nat)(va:Value)(L:Nat)(w:World)(hk:aL w low D H S va [] L)(hlow:low<=w.heap.size)(hs:(nodes=2/\ss=3)∨(nodes=3/\ss=7)∨(nodes=4/\ss=15)∨(nodes=5/\ss=31)):
  Calls pG 161 #[I T id,I T nodes,P0 (Y ⟨D,0,Z⟩)] w fun r w'=>∃(St:Nat) (vr:Value) (Mp:Nat),r=.returned (P0 (Y ⟨St,0,Z⟩))/\aF w' low St ⟨id,[⟨0,0,ss⟩],[],0,0,0,0,0,0,0⟩ vr Mp D/\w.heap.size<=St/\w.heap.size<=Mp/\(∀g,vr.ownBlock=Y g->w.heap.size<=g)/\Below w.heap.size w w':=by
 have HK:=aA hk;have HSS:=aA hs;clear hk hs;go_enter Tryz.func161,Tryz.ntmps161
 go_wp2_with fail
 refine(BT low D H S va [] (-1) dQ w HK.out.hands HK.out.ds (by simp)).mono ?_;rintro r w0 ⟨rfl,rfl⟩
 go_wp2_with fail
 refine(EL w0).mono ?_;rintro r w1 ⟨rfl,rfl⟩
 go_wp2_with fail
 refine(uW id nodes ss w1 HSS.out).mono ?_;rintro r w2 ⟨vr,Mp,rfl,ho,hv,hMp,hb⟩;obtain⟨ra,rc,rfl⟩:=aO ho;have hs2:=hb.size;have HO:=aA ho;have HV:=aA hv;have HB:=aA hb;clear ho hv hb;go_wp2
 go_loopw [29] (fun i wr=>i=I T 0/\wr=w2.alloc (G #[I T id,J ra 1 rc,Value.map (Y Mp),I T 0,I T 0,I T 0,I T 0,I T 0,I T 0,P0 (Y ⟨D,0,Z⟩),I T 0,bool true] 200)) (fun _ _=>0)
 case atStart=>exact⟨rfl,rfl⟩
 case round=>
  obtain⟨rfl,rfl⟩:=hrel;go_wp2;go_ret;refine⟨_,J ra 1 rc,Mp,rfl,⟨aB.new w2 #[I T id,J ra 1 rc,Value.map (Y Mp),I T 0,I T 0,I T 0,I T 0,I T 0,I T 0,P0 (Y ⟨D,0,Z⟩),I T 0,bool true] 200,cM (World.ownsRow.alloc HO.out _) hlow,HV.out.later ((Below.refl _ _).alloc (Nat.le_refl _) _)⟩,hs2,hMp,fun g hg=>(HO.out.lt g hg).1,HB.out.alloc hs2 _⟩
end
section
open Value (int slice pointer)
open IntKind (i64)
set_option maxRecDepth 20000
theorem JF(a : Addr)(w : World) : (Op.equalIn 9999 95 (.pointer (some a)) (.pointer none)).run pG w = .ok false w := by
 have h : (Tryz.prog.underlying 95).map (fun u => match u with | .pointer _ => true | _ => false) = some true := by kernel_rfl
 obtain ⟨u, hu, h1⟩ := Option.map_eq_some_iff.1 h
 cases u <;> simp at h1
 rw [Op.equalIn]
 simp [hu, go_sem]
theorem EM(low:Nat)(id nodes nb ss:Int)(D H S:Nat)(va:Value)(L:Nat)(w:World)(hk:aL w low D H S va [] L)(hlow:low<=w.heap.size)(hs:(nodes=2/\ss=3)∨(nodes=3/\ss=7)∨(nodes=4/\ss=15)∨(nodes=5/\ss=31))(hi0:0<=id)(hi1:id<nodes)(hb1:1<=nb)(hb4:nb<=4):
  Calls pG 112 #[I T id,I T nodes,I T nb,P0 (Y ⟨D,0,Z⟩)] w fun r w'=>∃(Nd St:Nat) (vr:Value) (Mp:Nat),r=.returned (.tuple #[P0 (Y ⟨Nd,0,Z⟩),I T 0])/\aI w' Nd id nodes nb St false/\aF w' low St ⟨id,[⟨0,0,ss⟩],[],0,0,0,0,0,0,0⟩ vr Mp D/\w.heap.size<=Nd/\w.heap.size<=St/\w.heap.size<=Mp/\(∀g,vr.ownBlock=Y g->w.heap.size<=g)/\Below w.heap.size w w':=by
 have q1:decide (nodes<2)=false:=by rcases hs with h|h|h|h<;>simp<;>omega
 have q2:decide (5<nodes)=false:=by rcases hs with h|h|h|h<;>simp<;>omega
 have q3:decide (id<0)=false:=by simp;omega
 have q4:decide (nodes<=id)=false:=by simp;omega
 have q5:decide (nb<1)=false:=by simp;omega
 have q6:decide (4<nb)=false:=by simp;omega
 have HK:=aA hk;have HSS:=aA hs;have c0:=hk.hands.cd;clear hk hs hi0 hi1 hb1 hb4;have heq:=fun a w=>JF a w;go_enter Tryz.func112,Tryz.ntmps112
 go_wp2_with fail
 refine(nN low D H S va [] (-1) w HK.out.hands HK.out.ds).mono ?_;rintro r w0 ⟨rfl,rfl⟩
 go_wp2_with fail
 refine(CD low id nodes ss D H S va L w0 HK.out hlow HSS.out).mono ?_;rintro r w2 ⟨St,vr,Mp,rfl,hst,hSt,hMp,hvr,hb⟩;have hs2:=hb.size;have HS:=aA hst;have HB:=aA hb;clear hst hb;go_wp2
 go_ret2
 refine⟨_,St,vr,Mp,rfl,⟨aB.new w2 _ 192⟩,HS.out.later ((Below.refl _ _).alloc (Nat.le_refl _) _),hs2,hSt,hMp,hvr,HB.out.alloc hs2 _⟩
end
section
set_option maxRecDepth 20000
theorem wP(hLO:fK)(hUO:fJ)(Kn Nd:Nat)(vb:Value)(w:World)(hn:aB w Kn #[Value.int IntKind.i32 0,Value.int IntKind.u32 0,P0 (Y ⟨Nd,0,Z⟩)] 134)(Q:Value->World->Prop)(hC:∀W,aD Kn w W->aB W Kn #[Value.int IntKind.i32 1,Value.int IntKind.u32 0,P0 (Y ⟨Nd,0,Z⟩)] 134->Calls pG 143 #[P0 (Y ⟨Nd,0,Z⟩),vb] W fun r W1=>∃l,r=.returned l/\aB W1 Kn #[Value.int IntKind.i32 1,Value.int IntKind.u32 0,P0 (Y ⟨Nd,0,Z⟩)] 134/\∀W2,aD Kn W1 W2->aB W2 Kn #[Value.int IntKind.i32 0,Value.int IntKind.u32 0,P0 (Y ⟨Nd,0,Z⟩)] 134->Q l W2):
  Calls pG 91 #[P0 (Y ⟨Kn,0,Z⟩),vb] w fun r w'=>∃l,r=.returned l/\Q l w':=by
 have HC:=aA hC;have c0:=hn.cell 0;simp at c0;have f0:=hn.free 0;have HN1:Hid (aB (w.setCell ⟨Kn,0,Z⟩ (.int .i32 1)) Kn #[Value.int IntKind.i32 1,Value.int IntKind.u32 0,P0 (Y ⟨Nd,0,Z⟩)] 134):=by have h9:=hn.set 0 (Value.int IntKind.i32 1);unfold Hid;simpa using h9
 clear hC hn
 go_enter_defers Tryz.func91,Tryz.ntmps91
 go_wp2_with fail
 refine(hLO ⟨Kn,0,Z⟩ w c0 f0).mono ?_;rintro r w1 ⟨rfl,rfl⟩;obtain⟨W1,hW1⟩:∃y,y=w.setCell ⟨Kn,0,Z⟩ (.int .i32 1):=⟨_,rfl⟩;have HBU:Hid (aD Kn w W1):=by rw[hW1];exact aD.setCell w ⟨Kn,0,Z⟩ _
 rw[←hW1]at HN1⊢;clear hW1 c0 f0;have d2:=HN1.out.cell 2;have d0:=HN1.out.cell 0;simp at d2 d0
 go_wp2_with fail
 refine(HC.out W1 HBU.out HN1.out).mono ?_;rintro r w2 ⟨l,rfl,hn2,hq⟩;have HN2:=aA hn2;have HQ:=aA hq;clear hn2 hq HN1 d2 d0
 go_wp2_with fail
 refine leaves_cons (f:=60) (args:=#[P0 (Y ⟨Kn,0,Z⟩)]) (by simp) (by simp[go_sem]) ?_;refine(hUO ⟨Kn,0,Z⟩ .returning w2 ?_ ?_).mono ?_
 ·have h9:=HN2.out.cell 0;simpa using h9
 ·exact HN2.out.free 0
 rintro e u' w3 ⟨rfl,rfl,rfl⟩;have h9:=HN2.out.set 0 (Value.int IntKind.i32 0);have h8:aB (w2.setCell ⟨Kn,0,Z⟩ (.int .i32 0)) Kn #[Value.int IntKind.i32 0,Value.int IntKind.u32 0,P0 (Y ⟨Nd,0,Z⟩)] 134:=by simpa using h9
 have hq9:=HQ.out _ (aD.setCell w2 ⟨Kn,0,Z⟩ _) h8;exact⟨_,results_tmp rfl _ _ _,l,rfl,hq9⟩
theorem wQ(hLO:fK)(hUO:fJ)(Kn Nd:Nat)(w:World)(hn:aB w Kn #[Value.int IntKind.i32 0,Value.int IntKind.u32 0,P0 (Y ⟨Nd,0,Z⟩)] 134)(Q:Value->World->Prop)(hC:∀W,aD Kn w W->aB W Kn #[Value.int IntKind.i32 1,Value.int IntKind.u32 0,P0 (Y ⟨Nd,0,Z⟩)] 134->Calls pG 62 #[P0 (Y ⟨Nd,0,Z⟩)] W fun r W1=>∃l,r=.returned l/\aB W1 Kn #[Value.int IntKind.i32 1,Value.int IntKind.u32 0,P0 (Y ⟨Nd,0,Z⟩)] 134/\∀W2,aD Kn W1 W2->aB W2 Kn #[Value.int IntKind.i32 0,Value.int IntKind.u32 0,P0 (Y ⟨Nd,0,Z⟩)] 134->Q l W2):
  Calls pG 27 #[P0 (Y ⟨Kn,0,Z⟩)] w fun r w'=>∃l,r=.returned l/\Q l w':=by
 have HC:=aA hC;have c0:=hn.cell 0;simp at c0;have f0:=hn.free 0;have HN1:Hid (aB (w.setCell ⟨Kn,0,Z⟩ (.int .i32 1)) Kn #[Value.int IntKind.i32 1,Value.int IntKind.u32 0,P0 (Y ⟨Nd,0,Z⟩)] 134):=by have h9:=hn.set 0 (Value.int IntKind.i32 1);unfold Hid;simpa using h9
 clear hC hn
 go_enter_defers Tryz.func27,Tryz.ntmps27
 go_wp2_with fail
 refine(hLO ⟨Kn,0,Z⟩ w c0 f0).mono ?_;rintro r w1 ⟨rfl,rfl⟩;obtain⟨W1,hW1⟩:∃y,y=w.setCell ⟨Kn,0,Z⟩ (.int .i32 1):=⟨_,rfl⟩;have HBU:Hid (aD Kn w W1):=by rw[hW1];exact aD.setCell w ⟨Kn,0,Z⟩ _
 rw[←hW1]at HN1⊢;clear hW1 c0 f0;have d2:=HN1.out.cell 2;have d0:=HN1.out.cell 0;simp at d2 d0
 go_wp2_with fail
 refine(HC.out W1 HBU.out HN1.out).mono ?_;rintro r w2 ⟨l,rfl,hn2,hq⟩;have HN2:=aA hn2;have HQ:=aA hq;clear hn2 hq HN1 d2 d0
 go_wp2_with fail
 refine leaves_cons (f:=60) (args:=#[P0 (Y ⟨Kn,0,Z⟩)]) (by simp) (by simp[go_sem]) ?_;refine(hUO ⟨Kn,0,Z⟩ .returning w2 ?_ ?_).mono ?_
 ·have h9:=HN2.out.cell 0;simpa using h9
 ·exact HN2.out.free 0
 rintro e u' w3 ⟨rfl,rfl,rfl⟩;have h9:=HN2.out.set 0 (Value.int IntKind.i32 0);have h8:aB (w2.setCell ⟨Kn,0,Z⟩ (.int .i32 0)) Kn #[Value.int IntKind.i32 0,Value.int IntKind.u32 0,P0 (Y ⟨Nd,0,Z⟩)] 134:=by simpa using h9
 have hq9:=HQ.out _ (aD.setCell w2 ⟨Kn,0,Z⟩ _) h8;exact⟨_,results_tmp rfl _ _ _,l,rfl,hq9⟩
theorem yK(hLO:fK)(hUO:fJ)(Kn Nd:Nat)(w:World)(hn:aB w Kn #[Value.int IntKind.i32 0,Value.int IntKind.u32 0,P0 (Y ⟨Nd,0,Z⟩)] 134)(Q:Value->World->Prop)(hC:∀W,aD Kn w W->aB W Kn #[Value.int IntKind.i32 1,Value.int IntKind.u32 0,P0 (Y ⟨Nd,0,Z⟩)] 134->Calls pG 61 #[P0 (Y ⟨Nd,0,Z⟩)] W fun r W1=>∃l,r=.returned l/\aB W1 Kn #[Value.int IntKind.i32 1,Value.int IntKind.u32 0,P0 (Y ⟨Nd,0,Z⟩)] 134/\∀W2,aD Kn W1 W2->aB W2 Kn #[Value.int IntKind.i32 0,Value.int IntKind.u32 0,P0 (Y ⟨Nd,0,Z⟩)] 134->Q l W2):
  Calls pG 26 #[P0 (Y ⟨Kn,0,Z⟩)] w fun r w'=>∃l,r=.returned l/\Q l w':=by
 have HC:=aA hC;have c0:=hn.cell 0;simp at c0;have f0:=hn.free 0;have HN1:Hid (aB (w.setCell ⟨Kn,0,Z⟩ (.int .i32 1)) Kn #[Value.int IntKind.i32 1,Value.int IntKind.u32 0,P0 (Y ⟨Nd,0,Z⟩)] 134):=by have h9:=hn.set 0 (Value.int IntKind.i32 1);unfold Hid;simpa using h9
 clear hC hn
 go_enter_defers Tryz.func26,Tryz.ntmps26
 go_wp2_with fail
 refine(hLO ⟨Kn,0,Z⟩ w c0 f0).mono ?_;rintro r w1 ⟨rfl,rfl⟩;obtain⟨W1,hW1⟩:∃y,y=w.setCell ⟨Kn,0,Z⟩ (.int .i32 1):=⟨_,rfl⟩;have HBU:Hid (aD Kn w W1):=by rw[hW1];exact aD.setCell w ⟨Kn,0,Z⟩ _
 rw[←hW1]at HN1⊢;clear hW1 c0 f0;have d2:=HN1.out.cell 2;have d0:=HN1.out.cell 0;simp at d2 d0
 go_wp2_with fail
 refine(HC.out W1 HBU.out HN1.out).mono ?_;rintro r w2 ⟨l,rfl,hn2,hq⟩;have HN2:=aA hn2;have HQ:=aA hq;clear hn2 hq HN1 d2 d0
 go_wp2_with fail
 refine leaves_cons (f:=60) (args:=#[P0 (Y ⟨Kn,0,Z⟩)]) (by simp) (by simp[go_sem]) ?_;refine(hUO ⟨Kn,0,Z⟩ .returning w2 ?_ ?_).mono ?_
 ·have h9:=HN2.out.cell 0;simpa using h9
 ·exact HN2.out.free 0
 rintro e u' w3 ⟨rfl,rfl,rfl⟩;have h9:=HN2.out.set 0 (Value.int IntKind.i32 0);have h8:aB (w2.setCell ⟨Kn,0,Z⟩ (.int .i32 0)) Kn #[Value.int IntKind.i32 0,Value.int IntKind.u32 0,P0 (Y ⟨Nd,0,Z⟩)] 134:=by simpa using h9
 have hq9:=HQ.out _ (aD.setCell w2 ⟨Kn,0,Z⟩ _) h8;exact⟨_,results_tmp rfl _ _ _,l,rfl,hq9⟩
theorem EN(low:Nat)(id nodes nb ss:Int)(D H S:Nat)(va:Value)(L:Nat)(w:World)(hk:aL w low D H S va [] L)(hlow:low<=w.heap.size)(hs:(nodes=2/\ss=3)∨(nodes=3/\ss=7)∨(nodes=4/\ss=15)∨(nodes=5/\ss=31))(hi0:0<=id)(hi1:id<nodes)(hb1:1<=nb)(hb4:nb<=4):
  Calls pG 66 #[I T id,I T nodes,I T nb,P0 (Y ⟨D,0,Z⟩)] w fun r w'=>∃(Kn Nd St:Nat) (vr:Value) (Mp:Nat),r=.returned (.tuple #[P0 (Y ⟨Kn,0,Z⟩),I T 0])/\aB w' Kn #[Value.int IntKind.i32 0,Value.int IntKind.u32 0,P0 (Y ⟨Nd,0,Z⟩)] 134/\aI w' Nd id nodes nb St false/\aF w' low St ⟨id,[⟨0,0,ss⟩],[],0,0,0,0,0,0,0⟩ vr Mp D/\w.heap.size<=Kn/\w.heap.size<=Nd/\w.heap.size<=St/\w.heap.size<=Mp/\(∀g,vr.ownBlock=Y g->w.heap.size<=g)/\Below w.heap.size w w':=by
 have HP:=EM low id nodes nb ss D H S va L w hk hlow hs hi0 hi1 hb1 hb4;clear hk hs hi0 hi1 hb1 hb4;go_enter Tryz.func66,Tryz.ntmps66
 go_wp2_with fail
 refine Calls.mono HP ?_;rintro r w2 ⟨Nd,St,vr,Mp,rfl,hnd,hst,hNd,hSt,hMp,hvr,hb⟩;have hs2:=hb.size;have HN:=aA hnd;have HS:=aA hst;have HB:=aA hb;clear hnd hst hb;go_wp2
 go_ret2
 have hb9:=(Below.refl w2.heap.size w2).alloc (Nat.le_refl _) (G #[Value.int IntKind.i32 0,Value.int IntKind.u32 0,P0 (Y ⟨Nd,0,Z⟩)] 134);exact⟨_,Nd,St,vr,Mp,rfl,aB.new w2 _ 134,HN.out.later hb9,HS.out.later hb9,hs2,hNd,hSt,hMp,hvr,HB.out.alloc hs2 _⟩
end
def tT(w:World)(Kn low Nd:Nat)(id nodes nb:Int)(act:Bool)(St:Nat)(vr:Value)(Mp D H S:Nat)(va:Value)(L:Nat)(P:SD->Prop)(o:Option (Int×List UInt8))(l:Value)(w':World):Prop:=
 (match o with
  |none=>l=J Z 0 0
  | some (dst,x)=>∃v,w'.ownsRow w.heap.size 172 2 l 1 [I T dst,v]/\bJ w' w.heap.size v x)/\
 aB w' Kn #[Value.int IntKind.i32 0,Value.int IntKind.u32 0,P0 (Y ⟨Nd,0,Z⟩)] 134/\
 ∃vr' va' fs' d',P d'/\aI w' Nd id nodes nb St act/\aF w' low St d' vr' Mp D/\aL w' low D H S va' fs' L/\(∀g,va'.ownBlock=Y g->va.ownBlock=Y g∨w.heap.size<=g)/\(∀g,vr'.ownBlock=Y g->vr.ownBlock=Y g∨w.heap.size<=g)/\aK (fun g=>g=Kn∨g=Nd∨eH St vr Mp S va g) w w'
theorem aF.butT{w w':World}{low St Mp D B:Nat}{d:SD}{vr:Value}{cs:Array Value}{ty:TypeId}(h:aF w low St d vr Mp D)(hB:aB w B cs ty)(t1:ty≠200)(t2:ty≠66)(hb:aD B w w'):aF w' low St d vr Mp D:=
 ⟨h.blk.same (hb.block St (h.blk.ne hB (Ne.symm t1))),aH h.rcs (fun g hg=>hb.block g (fun hh=>aW h.rcs hB.blk t2 (by rw[←hh];exact hg))),h.vot.same (hb.block Mp (h.vot.ne hB))⟩
theorem AS(hLO:fK)(hUO:fJ)(Kn low Nd St:Nat)(d:SD)(vr:Value)(Mp D H S:Nat)(va:Value)(fs:List FD)(L L':Nat)(P:SD->Prop)(id nodes nb:Int)(act act':Bool)(bs:List UInt8)(vb:Value)(o:Option (Int×List UInt8))(w:World)(hK:aB w Kn #[Value.int IntKind.i32 0,Value.int IntKind.u32 0,P0 (Y ⟨Nd,0,Z⟩)] 134)(hn:aI w Nd id nodes nb St act)(h:aF w low St d vr Mp D)(hk:aL w low D H S va fs L)(ht:aJ w)(hKn2:2<=Kn)(hr:∀W,aD Kn w W->aR W W.heap.size vb bs)(hin:∀W,W.heap.size=w.heap.size->aI W Nd id nodes nb St act->aF W low St d vr Mp D->aL W low D H S va fs L->aJ W->aR W W.heap.size vb bs->Calls pG 143 #[P0 (Y ⟨Nd,0,Z⟩),vb] W fun r W1=>∃l,r=.returned l/\aZ W low Nd id nodes nb act' St vr Mp D H S va L' P o l W1):
  Calls pG 91 #[P0 (Y ⟨Kn,0,Z⟩),vb] w fun r w'=>∃l,r=.returned l/\tT w Kn low Nd id nodes nb act' St vr Mp D H S va L' P o l w':=by
 refine wP hLO hUO Kn Nd vb w hK (tT w Kn low Nd id nodes nb act' St vr Mp D H S va L' P o) ?_;intro W hbu hK1;have hnW:aI W Nd id nodes nb St act:=⟨hn.blk.same (hbu.block Nd (hn.blk.ne hK (by decide)))⟩;have hW:=h.butT hK (by decide) (by decide) hbu;have hkW:=hk.but hK (by decide) (by decide) (by decide) (by decide) hbu;refine(hin W hbu.size hnW hW hkW (ht.butT hbu hKn2) (hr W hbu)).mono ?_;rintro r W1 ⟨l,rfl,hans,hnow⟩;obtain⟨vr',va',fs',d',g1,g2,g3,g4,g5,g6,g7⟩:=hnow.copy
 have hK2:aB W1 Kn #[Value.int IntKind.i32 1,Value.int IntKind.u32 0,P0 (Y ⟨Nd,0,Z⟩)] 134:=hK1.same (g7.block Kn hK1.lt (by
  rintro(hh|hh)
  ·exact hK1.ne hnW.blk (by decide) hh
  ·exact gA hW hkW hK1 (by decide) (by decide) (by decide) (by decide) hh))
 refine⟨l,rfl,hK2,fun W2 hb2 hK3=>⟨?_,hK3,vr',va',fs',d',g1,⟨g2.blk.same (hb2.block Nd (g2.blk.ne hK2 (by decide)))⟩,g3.butT hK2 (by decide) (by decide) hb2,g4.but hK2 (by decide) (by decide) (by decide) (by decide) hb2,?_,?_,?_⟩⟩
 ·have hKlt:=hK.lt;have hsz:=hbu.size
  cases o with
  |none=>exact hans
  |some y=>
   obtain⟨dst,x⟩:=y;obtain⟨v,hl,hx⟩:=hans;refine⟨v,?_,?_⟩
   ·exact cM (aH hl (fun g hg=>hb2.block g (by have:=(hl.lt g hg).1;omega))) (by omega)
   ·exact cM (aH hx (fun g hg=>hb2.block g (by have:=(World.ownsRow.lt hx g hg).1;omega))) (by omega)
 ·intro g hg;have hsz:=hbu.size;exact(g5 g hg).imp (fun h9=>h9) (fun h9=>by omega)
 ·intro g hg;have hsz:=hbu.size;exact(g6 g hg).imp (fun h9=>h9) (fun h9=>by omega)
 ·have hsz:=hbu.size;have hs2:=hb2.size;have hs1:=g7.size;exact⟨hb2.os.trans (g7.os.trans hbu.os),hb2.tape.trans (g7.tape.trans hbu.tape),hb2.output.trans (g7.output.trans hbu.output),by omega,fun k hkk hA=>(hb2.block k (fun hh=>hA (.inl hh))).trans ((g7.block k (by omega) (fun hh=>hA (.inr hh))).trans (hbu.block k (fun hh=>hA (.inl hh))))⟩
theorem rE{w W W1 W2:World}{Kn:Nat}{cs:Array Value}{ty:TypeId}(hK:aB w Kn cs ty)(h1:aD Kn w W)(h2:Below W.heap.size W W1)(h3:aD Kn W1 W2)(hK2:aB W2 Kn cs ty):Below w.heap.size w W2:=by
 have s1:=h1.size;have s3:=h3.size;have s2:=h2.size;refine⟨h3.os.trans (h2.os.trans h1.os),h3.tape.trans (h2.tape.trans h1.tape),h3.output.trans (h2.output.trans h1.output),by omega,fun k hk=>?_⟩
 by_cases hh:k=Kn
 ·rw[hh,hK2.blk,hK.blk]
 ·exact(h3.block k hh).trans ((h2.block k (by omega)).trans (h1.block k hh))
theorem uX(hLO:fK)(hUO:fJ)(Kn low Nd St:Nat)(d:SD)(vr:Value)(Mp D:Nat)(id nodes nb:Int)(act:Bool)(w:World)(hK:aB w Kn #[Value.int IntKind.i32 0,Value.int IntKind.u32 0,P0 (Y ⟨Nd,0,Z⟩)] 134)(hn:aI w Nd id nodes nb St act)(h:aF w low St d vr Mp D)(hne:0<d.recs.length)(hlt:d.recs.length<=100000000):
  Calls pG 27 #[P0 (Y ⟨Kn,0,Z⟩)] w fun r w'=>∃l,r=.returned l/\w'.ownsRow w.heap.size 66 3 l d.recs.length (d.recs.flatMap aM.cells)/\Below w.heap.size w w':=by
 refine wQ hLO hUO Kn Nd w hK (fun l w'=>w'.ownsRow w.heap.size 66 3 l d.recs.length (d.recs.flatMap aM.cells)/\Below w.heap.size w w') ?_;intro W hbu hK1;refine(wK Nd id nodes nb act low St d vr Mp D W ⟨hn.blk.same (hbu.block Nd (hn.blk.ne hK (by decide)))⟩ (h.butT hK (by decide) (by decide) hbu) hne hlt).mono ?_;rintro r W1 ⟨v,rfl,ho,hb⟩;refine⟨v,rfl,hK1.later hb,fun W2 hb2 hK2=>⟨?_,rE hK hbu hb hb2 hK2⟩⟩;have hKlt:=hK.lt;have hsz:=hbu.size;exact cM (aH ho (fun g hg=>hb2.block g (by have:=(ho.lt g hg).1;omega))) (by omega)
theorem vM(hLO:fK)(hUO:fJ)(Kn Nd St:Nat)(id nodes nb:Int)(act:Bool)(w:World)(hK:aB w Kn #[Value.int IntKind.i32 0,Value.int IntKind.u32 0,P0 (Y ⟨Nd,0,Z⟩)] 134)(hn:aI w Nd id nodes nb St act):
  Calls pG 26 #[P0 (Y ⟨Kn,0,Z⟩)] w fun r w'=>∃l,r=.returned l/\l=.bool act/\Below w.heap.size w w':=by
 refine yK hLO hUO Kn Nd w hK (fun l w'=>l=.bool act/\Below w.heap.size w w') ?_;intro W hbu hK1;refine(yJ Nd St id nodes nb act W ⟨hn.blk.same (hbu.block Nd (hn.blk.ne hK (by decide)))⟩).mono ?_;rintro r W1 ⟨rfl,rfl⟩;exact⟨_,rfl,hK1,fun W2 hb2 hK2=>⟨rfl,rE hK hbu (Below.refl _ _) hb2 hK2⟩⟩
structure cC(d:SD)(n:RN):Prop where
 id:d.id=n.id
 recs:d.recs=n.recs
 ne:0<n.recs.length
 ep:∀i (h:i<n.recs.length),(n.recs[i]).E=(i:Int)
 vts:∀e,(n.recs.length:Int) - 1<=e->aE d.vts e=⟨(aY n.votes e).pr,(aY n.votes e).wa,(aY n.votes e).pm,(aY n.votes e).st⟩
 len:n.blocks.length<=4
 blocks:[d.b0,d.b1,d.b2,d.b3].take n.blocks.length=n.blocks
 seen:d.seen=n.seen
 last:d.last=n.last
theorem mK(vs:List aS)(v:aS)(e:Int):aY (fN vs v) e=if e=v.ep then v else aY vs e:=by
 unfold aY fN dJ;rw[List.find?_append]
 by_cases h:e=v.ep
 ·subst h
  have h0:(vs.filter (fun x=>x.ep != v.ep)).find? (fun x=>x.ep==v.ep)=none:=by
   rw[List.find?_eq_none];intro x hx;have:=(List.mem_filter.1 hx).2
   simpa using this
  rw[h0];simp
 ·rw[if_neg h];have h1:([v].find? (fun x=>x.ep==e))=none:=by simp;exact fun h2=>h h2.symm
  rw[h1,Option.or_none]
  congr 1
  rw[List.find?_filter]
  congr 1
  funext x
  by_cases hx:x.ep=e
  ·simp[hx,h]
  ·simp[hx]
theorem cC.lines{d:SD}{n:RN}(h:cC d n)(ln:Int):cC {d with lines:=ln} n:=⟨h.id,h.recs,h.ne,h.ep,h.vts,h.len,h.blocks,h.seen,h.last⟩
theorem cC.voted{d:SD}{n:RN}(h:cC d n)(k e b p s q bl v:Int)(zs:List Int)(hk:k=1∨k=3)(he:(n.recs.length:Int) - 1<=e)(hb:¬b<(aY n.votes e).pr):cC (d.step k e b p s q bl v zs) (n.votedN k e b p s):=by
 have hv:=h.vts e he;unfold RN.votedN SD.step;rw[if_neg hb];rcases hk with rfl|rfl
 ·rw[if_pos rfl,if_neg (by decide)];refine⟨h.id,h.recs,h.ne,h.ep,fun e' he'=>?_,h.len,h.blocks,h.seen,h.last⟩;show aE (fB d.vts e _) e'=_
  rw[rU,mK]
  by_cases hh:e'=e
  ·rw[if_pos hh,if_pos hh,hv];unfold PV.after;rw[if_neg (by decide)]
  ·rw[if_neg hh,if_neg hh];exact h.vts e' he'
 ·rw[if_neg (by decide),if_pos rfl,if_pos rfl];refine⟨h.id,h.recs,h.ne,h.ep,fun e' he'=>?_,h.len,h.blocks,h.seen,h.last⟩;show aE (fB d.vts e _) e'=_
  rw[rU,mK]
  by_cases hh:e'=e
  ·rw[if_pos hh,if_pos hh];unfold PV.after;rw[if_pos rfl]
  ·rw[if_neg hh,if_neg hh];exact h.vts e' he'
theorem cC.learned{d:SD}{n:RN}(h:cC d n)(e b p s q bl v:Int)(zs:List Int)(he:e=(n.recs.length:Int) - 1):cC (d.step 6 e b p s q bl v zs) (n.learn p s):=by
 have hl:n.lastR.E=e:=by unfold RN.lastR;rw[lastE h.ne h.ep,he]
 unfold SD.step;rw[if_neg (by decide),if_neg (by decide),if_pos rfl];have ht:d.takes (e+1) p=n.takes p:=by unfold SD.takes RN.takes;rw[h.id,h.seen,hl]
 unfold SD.learn RN.learn;rw[ht,hl];refine⟨h.id,?_,by simp,?_,?_,h.len,h.blocks,?_,?_⟩
 ·show d.recs++_=n.recs++_;rw[h.recs]
 ·intro i hi;simp only[List.length_append,List.length_cons,List.length_nil]at hi
  by_cases hlt:i<n.recs.length
  ·simp only[List.getElem_append_left hlt];exact h.ep i hlt
  ·have:i=n.recs.length:=by omega
   subst this;simp[he]
 ·intro e' he';simp only[List.length_append,List.length_cons,List.length_nil]at he';show aE (fP d.vts (e+1 - 1)) e'=_
  rw[BX _ _ _ (by omega)];exact h.vts e' (by omega)
 ·show(if n.takes p=true then e+1 else d.seen)=(if n.takes p=true then e+1 else n.seen);rw[h.seen]
 ·show(if n.takes p=true then(0:Int) else d.last)=(if n.takes p=true then 0 else n.last);rw[h.last]
theorem cC.wrote9{d:SD}{n:RN}(h:cC d n)(e b p s q bl v:Int)(zs:List Int)(hz:zs.length=n.blocks.length):cC (d.step 9 e b p s q bl v zs) (n.wrote 9 e q bl v zs):=by
 unfold SD.step RN.wrote;rw[if_neg (by decide),if_neg (by decide),if_neg (by decide),if_neg (by decide),if_pos rfl];have h4:=h.len;refine⟨h.id,h.recs,h.ne,h.ep,h.vts,by rw[←hz]at h4;exact h4,?_,rfl,rfl⟩;show[zs.getD 0 d.b0,zs.getD 1 d.b1,zs.getD 2 d.b2,zs.getD 3 d.b3].take zs.length=zs
 rw[←hz]at h4
 match zs,h4 with
 | [],_=>rfl
 | [a],_=>rfl
 | [a,b],_=>rfl
 | [a,b,c],_=>rfl
 | [a,b,c,d],_=>rfl
 |a::b::c::d::e::l,h4=>simp at h4
theorem cC.wrote7{d:SD}{n:RN}(h:cC d n)(e b p s q bl v:Int)(zs:List Int)(hb0:0<=bl)(hb:bl<n.blocks.length):cC (d.step 7 e b p s q bl v zs) (n.wrote 7 e q bl v zs):=by
 have h4:=h.len;have h5:bl=0∨bl=1∨bl=2∨bl=3:=by omega
 have hB:=h.blocks;unfold SD.step RN.wrote;rw[if_neg (by decide),if_neg (by decide),if_neg (by decide),if_pos rfl,if_neg (by decide)]
 have hw:∀d9:SD,d9=d.wblk bl v->d9.id=d.id/\d9.recs=d.recs/\d9.vts=d.vts/\[d9.b0,d9.b1,d9.b2,d9.b3]=[d.b0,d.b1,d.b2,d.b3].set bl.toNat v:=by
  rintro d9 rfl;unfold SD.wblk;rcases h5 with rfl|rfl|rfl|rfl<;>exact⟨rfl,rfl,rfl,rfl⟩
 obtain⟨w1,w2,w3,w4⟩:=hw _ rfl;refine⟨w1.trans h.id,w2.trans h.recs,h.ne,h.ep,?_,by simpa using h4,?_,rfl,rfl⟩
 ·intro e' he';show aE (d.wblk bl v).vts e'=_
  rw[w3];exact h.vts e' he'
 ·show[(d.wblk bl v).b0,(d.wblk bl v).b1,(d.wblk bl v).b2,(d.wblk bl v).b3].take (n.blocks.set bl.toNat v).length=n.blocks.set bl.toNat v
  rw[w4,List.length_set,List.take_set,hB]
theorem kZ(k:Nat)(f:Int)(nums:List Int)(hk:1<=k/\k<=10)(hf:0<=f/\f<5)(h:dX k nums=true):aN (k:Int) f nums=true:=by
 unfold aN;rw[Int.toNat_natCast,h]
 have:eU (k:Int) f=false:=by
  unfold eU;simp;omega
 rw[this];rfl
theorem nF(f e p s:Int)(hf:0<=f/\f<5)(he:0<=e/\e<=1000000000000)(hp:0<=p/\p<=5)(hs:0<=s/\s<=31):aN 6 f [0,e,0,0,p,s,0,0,0,0]=true:=kZ 6 f _ (by omega) hf ((jJ e 0 0 p s 0 0 0 0).2 ⟨he,hp,hs,rfl,rfl,rfl,rfl,rfl,rfl⟩)
theorem uD(f e b wa:Int)(hf:0<=f/\f<5)(he:0<=e/\e<=1000000000000)(hb:0<=b/\b<=1000000000000)(hw:0<=wa/\wa<=1000000000000):aN 5 f [0,e,b,wa,0,0,0,0,0,0]=true:=kZ 5 f _ (by omega) hf ((lE e b wa 0 0 0 0 0 0).2 ⟨he,hb,hw,rfl,rfl,rfl,rfl,rfl,rfl⟩)
theorem uE(f e b:Int)(hf:0<=f/\f<5)(he:0<=e/\e<=1000000000000)(hb:0<=b/\b<=1000000000000):aN 4 f [0,e,b,0,0,0,0,0,0,0]=true:=kZ 4 f _ (by omega) hf ((lC e b 0 0 0 0 0 0 0).2 ⟨he,hb,rfl,rfl,rfl,rfl,rfl,rfl,rfl⟩)
theorem uF(f e b wa p s:Int)(hf:0<=f/\f<5)(he:0<=e/\e<=1000000000000)(hb:0<=b/\b<=1000000000000)(hw:0<=wa/\wa<=1000000000000)(hp:0<=p/\p<=5)(hs:0<=s/\s<=31):aN 2 f [0,e,b,wa,p,s,0,0,0,0]=true:=kZ 2 f _ (by omega) hf ((lB e b wa p s 0 0 0 0).2 ⟨he,hb,hw,hp,hs,rfl,rfl,rfl,rfl⟩)
theorem KG(f e q:Int)(hf:0<=f/\f<5)(he:0<=e/\e<=1000000000000)(hq:0<=q/\q<=1000000000000):aN 8 f [0,e,0,0,0,0,q,0,0,0]=true:=kZ 8 f _ (by omega) hf ((lF e 0 0 0 0 q 0 0 0).2 ⟨he,hq,rfl,rfl,rfl,rfl,rfl,rfl,rfl⟩)
theorem JG(f e q:Int)(hf:0<=f/\f<5)(he:0<=e/\e<=1000000000000)(hq:0<=q/\q<=1000000000000):aN 10 f [0,e,0,0,0,0,q,0,0,0]=true:=kZ 10 f _ (by omega) hf ((kT e 0 0 0 0 q 0 0 0).2 ⟨he,hq,rfl,rfl,rfl,rfl,rfl,rfl,rfl⟩)
theorem cC.lastR{d:SD}{n:RN}(h:cC d n):d.lastR=n.lastR:=by unfold SD.lastR RN.lastR;rw[h.recs]
theorem cC.voted_same{d:SD}{n:RN}(h:cC d n)(k e b p s:Int)(hk:k=1∨k=3)(he:(n.recs.length:Int) - 1<=e)(hb:¬b<(aY n.votes e).pr)(hsame:(aE d.vts e).after k b p s=aE d.vts e):cC d (n.votedN k e b p s):=by
 have hv:=h.vts e he;unfold RN.votedN;rw[if_neg hb];rcases hk with rfl|rfl
 ·rw[if_neg (by decide)];refine⟨h.id,h.recs,h.ne,h.ep,fun e' he'=>?_,h.len,h.blocks,h.seen,h.last⟩;show aE d.vts e'=_
  rw[mK]
  by_cases hh:e'=e
  ·subst hh;rw[if_pos rfl,←hsame,hv];unfold PV.after;rw[if_neg (by decide)]
  ·rw[if_neg hh];exact h.vts e' he'
 ·rw[if_pos rfl];refine⟨h.id,h.recs,h.ne,h.ep,fun e' he'=>?_,h.len,h.blocks,h.seen,h.last⟩;show aE d.vts e'=_
  rw[mK]
  by_cases hh:e'=e
  ·subst hh;rw[if_pos rfl,←hsame];unfold PV.after;rw[if_pos rfl]
  ·rw[if_neg hh];exact h.vts e' he'
def RN.recvO(n:RN)(k f e b q bl:Int)(zs:List Int)(ec:Int):Option (Int×List UInt8):=
 if¬ec=0∨f=n.id∨n.nodes<=f then none
 else if k=1∨k=3 then(if e<n.lastR.E then some (f,aT 6 n.id e 0 0 (n.recs.getD (e.toNat+1) ⟨0,0,0⟩).P (n.recs.getD (e.toNat+1) ⟨0,0,0⟩).S 0 0 0 []) else some (f,n.votedA k e b))
 else if k=7/\bl<n.blocks.length∨k=9/\zs.length=n.blocks.length then n.storedO k f e q
 else none
end Go.Proofs.YtdcainmlcpafbaaGreatDoor
