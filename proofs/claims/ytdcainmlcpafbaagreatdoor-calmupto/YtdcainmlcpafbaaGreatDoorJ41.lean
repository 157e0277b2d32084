import Derived.Test.YtdcainmlcpafbaaGreatDoorJ07
import Derived.Shelf.SlSortCmp.WholeK
import Derived.Shelf.SlSortCmp.NoneTotal
set_option linter.all false
set_option maxRecDepth 20000
namespace Go.Proofs.YtdcainmlcpafbaaGreatDoor
open Go.RowKit Go.Maps Go.Sort Go.Shelf Go.Lib
def CB:Go.Shelf.Ren:=⟨fun|6=>267|15=>273|14=>272|28=>284|29=>285|20=>276|21=>277|22=>278|23=>279|24=>280|25=>281|26=>282|27=>283|46=>286|47=>287|48=>288|49=>289|50=>290|57=>291|n=>n,fun|22=>344|24=>321|25=>349|3=>3|39=>293|0=>0|53=>127|55=>332|4=>4|46=>367|45=>366|50=>371|5=>5|9=>9|66=>373|70=>377|76=>379|77=>175|n=>n,fun|n=>n⟩
def F0:Go.Proofs.SlLaysF0.n6 Tryz.prog CB where
 mixed:=by kernel_rfl
 f6:=⟨Tryz.f267.name,by decide,Tryz.func267.trans (congrArg some (by kernel_rfl))⟩
 f14:=⟨Tryz.f272.name,by decide,Tryz.func272.trans (congrArg some (by kernel_rfl))⟩
 f15:=Tryz.func273.trans (congrArg some (by kernel_rfl))
 f20:=⟨Tryz.f276.name,by decide,Tryz.func276.trans (congrArg some (by kernel_rfl))⟩
 f21:=⟨Tryz.f277.name,by decide,Tryz.func277.trans (congrArg some (by kernel_rfl))⟩
 f22:=⟨Tryz.f278.name,by decide,Tryz.func278.trans (congrArg some (by kernel_rfl))⟩
 f23:=⟨Tryz.f279.name,by decide,Tryz.func279.trans (congrArg some (by kernel_rfl))⟩
 f24:=⟨Tryz.f280.name,by decide,Tryz.func280.trans (congrArg some (by kernel_rfl))⟩
 f25:=⟨Tryz.f281.name,by decide,Tryz.func281.trans (congrArg some (by kernel_rfl))⟩
 f26:=⟨Tryz.f282.name,by decide,Tryz.func282.trans (congrArg some (by kernel_rfl))⟩
 f27:=⟨Tryz.f283.name,by decide,Tryz.func283.trans (congrArg some (by kernel_rfl))⟩
 f28:=Tryz.func284.trans (congrArg some (by kernel_rfl))
 f29:=Tryz.func285.trans (congrArg some (by kernel_rfl))
 f46:=⟨Tryz.f286.name,by decide,Tryz.func286.trans (congrArg some (by kernel_rfl))⟩
 f47:=Tryz.func287.trans (congrArg some (by kernel_rfl))
 f48:=Tryz.func288.trans (congrArg some (by kernel_rfl))
 f49:=⟨Tryz.f289.name,by decide,Tryz.func289.trans (congrArg some (by kernel_rfl))⟩
 f50:=⟨Tryz.f290.name,by decide,Tryz.func290.trans (congrArg some (by kernel_rfl))⟩
 f57:=⟨Tryz.f291.name,by decide,Tryz.func291.trans (congrArg some (by kernel_rfl))⟩
 t0:=Tryz.underlying0
 a0:=Tryz.isAgg0
 z0:=Tryz.sizeOf0
 v0:=Tryz.zeroValue0
 t3:=Tryz.underlying3
 a3:=Tryz.isAgg3
 z3:=Tryz.sizeOf3
 v3:=Tryz.zeroValue3
 t4:=Tryz.underlying4
 a4:=Tryz.isAgg4
 z4:=Tryz.sizeOf4
 v4:=Tryz.zeroValue4
 t5:=Tryz.underlying5
 a5:=Tryz.isAgg5
 z5:=Tryz.sizeOf5
 v5:=Tryz.zeroValue5
 t9:=Tryz.underlying9
 a9:=Tryz.isAgg9
 z9:=Tryz.sizeOf9
 v9:=Tryz.zeroValue9
 t22:=Tryz.underlying344
 a22:=Tryz.isAgg344
 z22:=Tryz.sizeOf344
 v22:=Tryz.zeroValue344
 t25:=Tryz.underlying349
 a25:=Tryz.isAgg349
 z25:=Tryz.sizeOf349
 v25:=Tryz.zeroValue349
 t39:=Tryz.underlying293
 a39:=Tryz.isAgg293
 z39:=Tryz.sizeOf293
 v39:=Tryz.zeroValue293
 t45:=Tryz.underlying366
 a45:=Tryz.isAgg366
 z45:=Tryz.sizeOf366
 v45:=Tryz.zeroValue366
 t46:=Tryz.underlying367
 a46:=Tryz.isAgg367
 z46:=Tryz.sizeOf367
 v46:=Tryz.zeroValue367
 t50:=Tryz.underlying371
 a50:=Tryz.isAgg371
 z50:=Tryz.sizeOf371
 v50:=Tryz.zeroValue371
 t53:=Tryz.underlying127
 a53:=Tryz.isAgg127
 z53:=Tryz.sizeOf127
 v53:=Tryz.zeroValue127
 t55:=Tryz.underlying332
 a55:=Tryz.isAgg332
 z55:=Tryz.sizeOf332
 v55:=Tryz.zeroValue332
 t66:=Tryz.underlying373
 a66:=Tryz.isAgg373
 z66:=Tryz.sizeOf373
 v66:=Tryz.zeroValue373
 t70:=Tryz.underlying377
 a70:=Tryz.isAgg377
 z70:=Tryz.sizeOf377
 v70:=Tryz.zeroValue377
 t76:=Tryz.underlying379
 a76:=Tryz.isAgg379
 z76:=Tryz.sizeOf379
 v76:=Tryz.zeroValue379
 t77:=Tryz.underlying175
 a77:=Tryz.isAgg175
 z77:=Tryz.sizeOf175
 v77:=Tryz.zeroValue175
def nZ(x y:Int):Int:=if x<y then -1 else if y<x then 1 else 0
set_option maxHeartbeats 1000000 in
def xA(x:Int)(w:World):Calls Tryz.prog 274 #[.int .i64 x] w λe w'=>e=.returned (.bool false)/\w'=w:=by go_enter Tryz.func274,Tryz.ntmps274;go_wp2;go_ret;exact⟨rfl,rfl⟩
set_option maxHeartbeats 1000000 in
def IX(x y:Int)(w:World):Calls Tryz.prog 269 #[.int .i64 x,.int .i64 y] w λe w'=>e=.returned (.int .i64 (nZ x y))/\w'=w:=by
 unfold nZ;by_cases h1:x<y;·rw[if_pos h1];go_enter Tryz.func269,Tryz.ntmps269;go_wp2_with(go_at_call 274;refine(xA _ _).mono ?_;rintro e w' ⟨rfl,rfl⟩);go_ret;exact⟨rfl,rfl⟩
 ·rw[if_neg h1];by_cases h2:y<x;·rw[if_pos h2];go_enter Tryz.func269,Tryz.ntmps269;go_wp2_with(go_at_call 274;refine(xA _ _).mono ?_;rintro e w' ⟨rfl,rfl⟩);go_ret;exact⟨rfl,rfl⟩
  ·rw[if_neg h2];go_enter Tryz.func269,Tryz.ntmps269;go_wp2_with(go_at_call 274;refine(xA _ _).mono ?_;rintro e w' ⟨rfl,rfl⟩);go_ret;exact⟨rfl,rfl⟩
set_option maxHeartbeats 1000000 in
def IY(x y:Int)(W:World):Calls Tryz.prog 262 #[.agg #[.int .i64 x],.agg #[.int .i64 y]] W λe w'=>e=.returned (.int .i64 (nZ x y))/\∃q os',w'=grow (W.drewN q) os':=by have hcon:=λW'=>IX x y W';generalize nZ x y=r at hcon⊢;go_enter Tryz.func262,Tryz.ntmps262;go_wp2_with(go_at_call 269;refine(hcon _).mono ?_;rintro e w' ⟨rfl,rfl⟩);go_ret;exact⟨rfl,0,_,by rw[alloc_eq_grow,alloc_eq_grow,grow_grow];rfl⟩
def lN(x:Int):List Value:=[.int .i64 x]
def NI(blk off size:Nat)(w:World):CmpLays Tryz.prog 262 #[] lN 1 nZ blk off size w:=λ_ _ _ _ x y=>IY x y _
def zS(x y:Int):ltOf nZ x y=decide (x<y):=by
 unfold ltOf nZ;by_cases h1:x<y;·simp[h1]
 ·by_cases h2:y<x<;>simp[h1,h2]
def SL:SWO (ltOf nZ) where
 irrefl x:=by rw[zS];simp
 trans x y z h1 h2:=by rw[zS] at*;simp at*;omega
 ntrans x y z h1 h2:=by rw[zS] at*;simp at*;omega
def LA(blk off cap:Nat)(d:Array Int)(w:World)(hH:HoldsK lN 1 w blk off d)(hblk:blk<w.heap.size)(hsz:d.size<4611686018427387904):Calls Tryz.prog 267 #[.slice (some ⟨blk,off,none⟩) d.size cap,.func (.func 262) #[] #[]] w λe w'=>e=.returned (.tuple #[])/\∃d' n os,PermIn 0 d.size d d'/\SortedIn (ltOf nZ) 0 d.size d'/\w'=sortWorldK lN 1 w blk off n d' os:=by have eg:∀args w,(callFunc 262 args).run Tryz.prog w=.ok (.enter 262 args) w:=enters_of Tryz.func262 (by kernel_rfl) rfl;exact AnyQ.slices_SortFunc F0 1 Tryz.isAgg321 Tryz.sizeOf321 lN (λ_=>rfl) (λx v hv=>by simp[lN]at hv;subst hv;rfl) nZ SL 262 #[] blk off cap d w eg (NI blk off d.size w) hH hblk hsz
def QT{w:World}{base g cap:Nat}{ks:List Int}(h:w.ownsRow base 321 1 (.slice (some ⟨g,0,none⟩) ks.length cap) ks.length (ks.map lB)):HoldsK lN 1 w g 0 ks.toArray:=by
 intro j hj;rw[size_flatK]at hj;have hj':j<ks.length:=by simpa using hj
 have hfl:(flatK lN 1 ks.toArray)[j]! =.int .i64 ks[j]:=by rw[get_flatK _ _ _ _ hj];simp[lN,Nat.mod_one,hj']
 rcases h.2 with⟨h0,_⟩|⟨g',cap',cur,h1,h2,h3,h4,h5,h6,h7⟩;·cases h0
 ·cases h1;have hc:cur.toList.take (ks.length*1)=ks.map lB:=h7;have hx:cur[j]?=some (.int .i64 ks[j]):=by
   have h8:(cur.toList.take (ks.length*1))[j]?=some (lB ks[j]):=by rw[hc];simp[hj']
   rw[List.getElem?_take,if_pos (by omega)]at h8;simpa[lB] using h8
  refine⟨?_,by simp[World.frozen?,h3]⟩;rw[hfl];simp only[World.cell?,h3,Nat.zero_add,id];exact hx
def IZ{C:Nat}{w w1:World}(h:Below C w w1)(hC:C<=w1.heap.size){blk:Nat}(hb:C<=blk)(n:Nat)(d:Array Int)(os:Array Obj):Below C w (sortWorldK lN 1 w1 blk 0 n d os):=by
 refine h.trans ⟨rfl,rfl,rfl,?_,λk hk=>?_⟩;·unfold sortWorldK putRowK;rw[size_grow,size_putRow];exact Nat.le_add_right _ _
 ·have hk1:k<w1.heap.size:=by omega
  unfold sortWorldK putRowK;rw[heap_grow_old _ _ (by rw[size_putRow];exact hk1)];show(w1.heap.modify blk _)[k]?=_;rw[Array.getElem?_modify,if_neg (by omega)]
def LB{w1:World}{g:Nat}{ks:List Int}(hg:g<w1.heap.size)(hH:HoldsK lN 1 w1 g 0 ks.toArray)(n:Nat)(d:Array Int)(hd:d.size=ks.length)(os:Array Obj)(cap:Nat):fM (sortWorldK lN 1 w1 g 0 n d os) (.slice (some ⟨g,0,none⟩) ks.length cap) ks.length (d.toList.map lB):=by
 refine .inr ⟨g,cap,rfl,?_,λj u hu=>?_⟩;·unfold sortWorldK putRowK;rw[size_grow,size_putRow];exact Nat.lt_of_lt_of_le hg (Nat.le_add_right _ _)
 ·have hj:j<d.size:=by have:=(List.getElem?_eq_some_iff.1 hu).1;simpa using this
  unfold sortWorldK putRowK;rw[cell?_grow _ _ _ (by rw[size_putRow];exact hg)];have h9:=cell?_putRow id (Sort.ahead w1 n) g 0 (flatK lN 1 ks.toArray) (flatK lN 1 d) (λj hj=>hH j hj) (by simp[hd]) j (by simpa using hj);rw[Nat.zero_add]at h9;rw[h9,get_flatK _ _ _ _ (by simpa using hj)];rw[List.getElem?_map]at hu;have h8:d.toList[j]?=some d[j]:=by simp[hj]
  rw[h8]at hu;simp at hu;rw[←hu];simp[lN,lB,Nat.mod_one,hj]
def RF{ks:List Int}{d:Array Int}(h:PermIn 0 ks.toArray.size ks.toArray d):d.toList.Perm ks/\d.size=ks.length:=by
 obtain⟨h1,_,h3⟩:=h;have e:d.size=ks.length:=by simpa using h1
 have e1:(d.extract 0 ks.toArray.size).toList=d.toList:=by rw[←h1];simp
 have e2:(ks.toArray.extract 0 ks.toArray.size).toList=ks:=by simp
 rw[e1,e2]at h3;exact⟨h3,e⟩
set_option maxRecDepth 20000 in
set_option maxHeartbeats 2000000 in
def I0(Bm b:Nat)(vs:List (Int×PV))(hN:vs.length<=100000000)(w:World)(hBm:Bm<w.heap.size)(hm:w.cell? ⟨Bm,0,none⟩=some (.map (some b)))(hown:VM w b vs):Calls Tryz.prog 260 #[Value.func (Fn.func 268) #[] #[Value.pointer (some ⟨Bm,0,none⟩)],Value.func (Fn.func 262) #[] #[]] w λe w'=>∃(v:Value) (ks:List Int),e=.returned v/\ks.Perm (vs.map (·.1))/\fM w' v ks.length (ks.map lB)/\(∀ad n c,v=.slice (some ad) n c->w.heap.size<=ad.block)/\Below w.heap.size w w':=by
 have h266:=G6 Bm b vs (by unfold maxLen;omega) (by omega) w hBm hm hown;clear hm hown;go_enter Tryz.func260,Tryz.ntmps260;go_wp2_with fail;refine h266.mono ?_;rintro r w1 ⟨v,ks,rfl,hp,hr,hb⟩;have hlen:ks.length<=100000000:=by have:=hp.length_eq;simp at this;omega
 clear h266;rcases hr.2 with⟨h0,h1⟩|⟨g,cap,cur,h1,h2,h3,h4,h5,h6,h7⟩;·subst h0;have hk0:ks=[]:=List.eq_nil_of_length_eq_zero h1;have hcon:=AnyF.slices_SortFunc_none (P:=Tryz.prog) (ρ:=CB) F0 none 0 (Value.func (Fn.func 262) #[] #[]) w1;change Calls Tryz.prog 267 _ _ _ at hcon;go_wp2_with fail;refine hcon.mono ?_;rintro r w2 ⟨rfl,rfl⟩;go_wp2;go_ret;exact⟨.slice none 0 0,ks,rfl,hp,.inl ⟨rfl,h1,by rw[hk0];rfl⟩,(λad n c h=>by cases h),hb⟩
 ·subst h1;have hH:=QT hr;have hg:=(hr.lt g (by simp[Value.ownBlock])).2;have hcon:=LA g 0 cap ks.toArray w1 hH hg (by simp;omega);have HSZ:Hid (ks.toArray.size=ks.length):=by unfold Hid;simp
  rw[HSZ.out]at hcon;clear hr h3 h4 h5 h6 h7;go_wp2_with fail;refine hcon.mono ?_;rintro r w2 ⟨rfl,d',n,os,hp2,_,rfl⟩;have hpl:=RF (by rw[HSZ.out];exact hp2);have HR:=LB hg hH n d' hpl.2 os cap;have HB:=IZ hb hb.size h2 n d' os;generalize sortWorldK lN 1 w1 g 0 n d' os=w2 at*;clear hcon hH;go_wp2;go_ret;refine⟨.slice (some ⟨g,0,none⟩) ks.length cap,d'.toList,rfl,hpl.1.trans hp,?_,(λad n c h=>by cases h;exact h2),HB⟩;have e9:d'.toList.length=ks.length:=by simpa using hpl.2
  rw[e9];exact HR
def NJ:fB:=λBm b vs w h1 h2 h3 h4=>I0 Bm b vs h1 w h2 h3 h4
end Go.Proofs.YtdcainmlcpafbaaGreatDoor
