/- Parts. -/
import Derived.Test.YtacgbldlonoaaaaGreatDoorRw5
import Derived.Test.YtacgbldlonoaaaaGreatDoorRw2
namespace Go.Proofs.YtacgbldlonoaaaaGreatDoor
open Go.Proofs.Tryz
set_option maxHeartbeats 4000000
set_option maxRecDepth 100000
open Go.RowKit
open Mth
variable {w:World}
abbrev aI (w:World) (a:Option Addr) (l:List Pu):Prop:=GR.At fH 4 w a l
theorem aI.four {a:Option Addr} {l:List Pu} (h:aI w a l) (i:Nat) (hi:i < l.length):∃g off,a=some ⟨g,off,none⟩/\g < w.heap.size/\w.cell? ⟨g,off+i*4,none⟩=some (.string l[i].k)/\w.cell? ⟨g,off+i*4+1,none⟩=some (.int .i64 l[i].m)/\w.cell? ⟨g,off+i*4+2,none⟩=some (.int .i64 l[i].f)/\w.cell? ⟨g,off+i*4+3,none⟩=some (.int .i64 l[i].s):=by
 exact ai8
theorem qh (s:ByteArray) (b:Bool) (hs:s.size<=maxLen) (hb:keyOk s.data.toList=b) (W:World) (n:Nat):Calls prog 64 #[.string s] (W.drewN n) λe w''=>e= .returned (.bool b)/\∃m,w''=W.drewN m:=by
 rw [<-hb];exact(Kr s _ hs).mono λe w' ⟨he,hw⟩=>⟨he,n,hw.symm⟩
theorem gT (x:Int) (b:Bool) (hb:decide (wL x 0 1000000000)=b) (W:World) (n:Nat):Calls prog 62 #[.int .i64 x] (W.drewN n) λe w''=>e= .returned (.bool b)/\∃m,w''=W.drewN m:=by
 rw [<-hb];exact(sV x _).mono λe w' ⟨he,hw⟩=>⟨he,n,hw.symm⟩
theorem kZ (a:Option Addr) (cap:Nat) (l:List Pu) (w:World) (hl:l.length<=1048600) (hk:∀p∈l,p.k.size<=maxLen) (ha:aI w a l):
 Calls prog 59 #[.slice a l.length cap] w (fF w (.bool (jo l))):=by
 have HA:=Hq ha;have HK:=Hq hk;clear ha hk;go_in
 go_wp2_with fail;go_loopw [3] (λi wr=>∃k:Nat,k<=l.length/\i= .int .i64 k/\(List.range k).all (kW l)=true/\aY w wr) (λi _=>l.length - (intOf i).toNat)
 case atStart=>exact aaO
 case round=>
  obtain⟨k,hk,rfl,hall,hbel⟩:=hrel;have gI:=Hq hbel;have mU:=Hq hall;clear hall hbel;by_cases hlt:k < l.length
  .have hks:=ah HK l[k] (List.getElem_mem hlt);open ang in exact aws
  .exact axD
theorem rM (a:Option Addr) (cap:Nat) (l:List Pu) (key:ByteArray) (w:World) (hl:l.length<=1048600) (ha:aI w a l):
 Calls prog 120 #[.slice a l.length cap,.string key] w (fF w (Al (aG l key))):=by
 have HA:=Hq ha;clear ha;go_in
 go_wp2_with fail;go_loopw [5] (λi wr=>∃k:Nat,k<=l.length/\i= .int .i64 k/\(l.take k).find? (λp=>p.k.toList == key.toList)=none/\wr=w.alloc (.cells (iM ⟨#[]⟩ 0 0 0) 143)) (λi _=>l.length - (intOf i).toNat)
 case atStart=>exact⟨0,Nat.zero_le _,rfl,rfl,rfl⟩
 case round=>
  obtain⟨k,hk,rfl,hnone,rfl⟩:=hrel;have HN:=Hq hnone;clear hnone;by_cases hlt:k < l.length
  .obtain⟨g,off,rfl,hgw,c0,c1,c2,c3⟩:=aI.four HA k hlt;have hfs:=JM (λp=>p.k.toList == key.toList) l k hlt HN;cases hf:l[k].k.toList == key.toList
   .have HX:=Hq (hfs.2 hf);clear hfs HN;open avu in exact aar
   .have HX:=Hq (show aG l key=l[k] by unfold aG;rw [hfs.1 hf];rfl);clear hfs HN;open avt in exact aar
  .open anW in exact Hu
theorem gG {g:Nat} {a0 a1 a2 a3:Value} {t:TypeId} (h:w.heap[g]?=some (.cells #[a0,a1,a2,a3] t (0,0))):
 (w.cell? ⟨g,0,none⟩=some a0/\w.cell? ⟨g,1,none⟩=some a1/\w.cell? ⟨g,2,none⟩=some a2/\w.cell? ⟨g,3,none⟩=some a3)/\(w.frozen? ⟨g,0,none⟩=false/\w.frozen? ⟨g,1,none⟩=false/\w.frozen? ⟨g,2,none⟩=false/\w.frozen? ⟨g,3,none⟩=false):=by
 have hc:∀i,w.cell? ⟨g,i,none⟩=#[a0,a1,a2,a3][i]?:=λi=>cell_of_row w g i _ t (0,0) h
 have hf:∀i,w.frozen? ⟨g,i,none⟩=false:=λi=>by unfold World.frozen?;rw [h];simp
 exact⟨⟨hc 0,hc 1,hc 2,hc 3⟩,hf 0,hf 1,hf 2,hf 3⟩
end Go.Proofs.YtacgbldlonoaaaaGreatDoor
