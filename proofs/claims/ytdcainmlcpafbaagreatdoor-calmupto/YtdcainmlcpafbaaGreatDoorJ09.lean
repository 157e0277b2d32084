import Derived.Test.YtdcainmlcpafbaaGreatDoorJ06
set_option linter.all false
set_option maxRecDepth 20000
namespace Go.Proofs.YtdcainmlcpafbaaGreatDoor
open Go.RowKit
open Value renaming slice->J,pointer->P0
open IntKind renaming i64->T
open Option renaming none->Z,some->Y
open Obj renaming cells->G
open Value (bool)
structure RN.ok(n:RN):Prop where
 nodes2:2<=n.2
 nodes5:n.2<=5
 id0:0<=n.id
 id1:n.id<n.2
 ne:0<n.recs.length
 recs:∀r∈n.recs,(0<=r.P/\r.P<=5)/\(0<=r.S/\r.S<=31)
 ep:∀i (h:i<n.recs.length),(n.recs[i]).E=(i:Int)
 mo:∀v∈n.mo,(0<=v.pr/\v.pr<=1000000000000)/\(0<=v.wa/\v.wa<=1000000000000)/\(0<=v.pm/\v.pm<=5)/\(0<=v.st/\v.st<=31)
 b1:1<=n.5.length
 b4:n.5.length<=4
def uC{w W:World}{o:Obj}(h:w.alloc o=W):Bw w W:=h ▸ a_ _ _
def uR{w W:World}{cs:Array Value}{t:TypeId}(h:w.alloc (G cs t)=W):dI W w.1.size cs t:=h ▸ dI.new _ _ _
end Go.Proofs.YtdcainmlcpafbaaGreatDoor
