/-
  TrKidsI.
-/
import Derived.Test.YtheiblbhlmaphaaPa8
import Derived.Test.YtheiblbhlmaphaaPaZ2
namespace Go.Proofs.Ytheiblbhlmaphaa
set_option maxHeartbeats 2000000
set_option maxRecDepth 100000
open Go.RowKit
open Mth
theorem implKids (a:Option Addr) (cap:Nat) (l:List Int) (n:Int) (w:World) (hl:l.length≤1048600) (ha:IntsAt w a l):
 Calls Try.prog 20 #[trv a l cap,.int .i64 n] w fun e w'=>∃v,e= .returned v∧w'.ownsRow w.heap.size 3 1 v (kidsN l n).length (GR.flat encNum (kidsN l n))∧Below w.heap.size w w':=by
 obtain⟨i0,hi,hz0,hz1,hz2⟩:=info_parts infoIntK;have HA:=hide ha;clear ha;go_enter Try.func20,Try.ntmps20
 go_wp2_with fail;go_loopw [5,11] (fun v i wr=>∃k:Nat,k≤l.length∧i= .int .i64 k∧wr.ownsRow w.heap.size 3 1 v (kidsTo l n k).length (GR.flat encNum (kidsTo l n k))∧Below w.heap.size w wr) (fun _ i _=>l.length - (intOf i).toNat)
 case atStart=>exact⟨0,Nat.zero_le _,rfl,World.ownsRow_nil _ _ _ _,below_one' w _⟩
 case round=>
  obtain⟨k,hk,rfl,hown,hbel⟩:=hrel;have HBL:=hide hbel;clear hbel;by_cases hlt:k < l.length
  ·have hlen:=kidsTo_len l n k;obtain⟨g,off,rfl,hgw,q0⟩:=IntsAt.one (GR.At.below HA HBL) k hlt;by_cases hkn:l[k]=n
   ·open Sa34 in exact Ya10
   ·have HY:=hide (kidsTo_no l n k hlt hkn);generalize l[k]=pu at *;have hnn:(pu == n)=false:=by simpa using hkn
    go_wp2_with fail;go_roundw
    case rel=>exact⟨k+1,by omega,by go_num,by rw [unhide HY];exact hown,HBL⟩
    case measure=>simp[intOf];omega
  ·have hke:k=l.length:=by omega
   subst hke;have hd:decide ((l.length:Int) < (l.length:Int))=false:=by simp
   go_wp2_with fail;go_ret;exact⟨_,rfl,hown,HBL⟩
end Go.Proofs.Ytheiblbhlmaphaa
