/- Parts. -/
import Derived.Test.YtbolgdleijjgfaaGreatDoorRf26
import Derived.Test.YtbolgdleijjgfaaGreatDoorRf15
import Derived.Test.YtbolgdleijjgfaaGreatDoorRf25
namespace Go.Proofs.YtbolgdleijjgfaaGreatDoor
open Go.Proofs.Tryz
set_option maxHeartbeats 4000000
open Go.RowKit
open Mth
variable {s:ByteArray}
namespace Mth
def gV (n:Nd) (L:List gP):Nd:=L.foldl (λm o=>(doN m o).1) n
theorem KG {n:Nd} {L:List gP} {k:Nat} (hk:k < L.length):gV n (L.take (k+1))=(doN (gV n (L.take k)) L[k]).1:=by
 unfold gV;rw [aE0 hk,List.foldl_append];rfl
theorem adb {n:Nd} (h:dV n=false) (L:List gP):gV n L=n:=by
 induction L with
 |nil=>rfl
 |cons o L ih=>
  have e:gV n (o::L)=gV (doN n o).1 L:=rfl;rw [e,LY h];exact ih
theorem Xd {n:Nd} (h:dV n=true) (L:List gP):dV (gV n L)=true:=by
 induction L generalizing n with
 |nil=>exact h
 |cons o L ih=>exact ih (Xa h)
theorem M8 {n:Nd} (h:eG n 1048576) (L:List gP):eG (gV n L) 1048576:=by
 induction L generalizing n with
 |nil=>exact h
 |cons o L ih=>exact ih (ayg h)
theorem azO {a:Nat} (h:Eo s a=true):bQ (opC (Ip s a))=true:=by
 have hg:=(uy h).2.2.2.2.2.1;grind [lH]
theorem KQ (s:ByteArray):∀(f a:Nat),a<=s.size->(tV s f a).1.length+a<=s.size
 |0,a,h=>by simpa [tV] using h
 |f+1,a,h=>by
  unfold tV
  split
  .rename_i hs
   obtain⟨p1,_,_,p2,p3,_⟩:=uy hs;have:=KQ s f (IU s a).toNat Aaa;rw [aGe];omega
  .simpa using h
theorem QO (s:ByteArray):∀(f a:Nat),∀o∈(tV s f a).1,bQ o=true
 |0,_,o,h=>by simp[tV] at h
 |f+1,a,o,h=>by
  unfold tV at h
  split at h
  .rename_i hs
   rcases aFd.1 h with rfl|h
   .exact azO hs
   .exact QO s f _ o h
  .simp at h
theorem ala (h:s.toList=[]):s.size<=1048576:=by
 have e:s=ByteArray.empty:=toList_inj (h.trans (by decide+kernel));rw [e];decide
theorem Xb {o:gP} (h:bQ o=true):o.k.size<=1048576/\o.m.k.size<=1048576:=by
 grind [bY,bQ,mq,AR,ala]
theorem QJ (s:ByteArray):∀o∈(gK s).1,bQ o=true:=by
 unfold gK;split
 .exact QO s _ _
 .intro o h;simp at h
theorem KN (s:ByteArray):(gK s).1.length<=60000:=by
 unfold gK;split
 .rename_i h
  have:=KQ s (s.size+1) 0 (aE7 _);omega
 .simp
end Mth
set_option maxRecDepth 100000
def jo (k:Nat):An:=⟨⟨(k:Int),(k:Int)+1,mark (k+2),(k:Int)+3,⟨(k:Int)+4,(k:Int)+5,(k:Int)+6,(k:Int)+7,(k:Int)+8,mark (k+9),(k:Int)+10⟩⟩,(k:Int)+11⟩
theorem GR.W.twelveA {w:World} {a:Option Addr} {g:Nat} {l:List An} (h:GR.W eU 12 w a g l) (i:Nat) (hi:i < l.length):a=some ⟨g,0,none⟩/\g < w.heap.size/\(w.cell? ⟨g,i*12,none⟩=some (.int .i64 l[i].o.K)/\w.cell? ⟨g,i*12+1,none⟩=some (.int .i64 l[i].o.no)/\w.cell? ⟨g,i*12+2,none⟩=some (.string l[i].o.k)/\w.cell? ⟨g,i*12+3,none⟩=some (.int .i64 l[i].o.n)/\w.cell? ⟨g,i*12+4,none⟩=some (.int .i64 l[i].o.m.K)/\w.cell? ⟨g,i*12+5,none⟩=some (.int .i64 l[i].o.m.F)/\w.cell? ⟨g,i*12+6,none⟩=some (.int .i64 l[i].o.m.T)/\w.cell? ⟨g,i*12+7,none⟩=some (.int .i64 l[i].o.m.I)/\w.cell? ⟨g,i*12+8,none⟩=some (.int .i64 l[i].o.m.L)/\w.cell? ⟨g,i*12+9,none⟩=some (.string l[i].o.m.k)/\w.cell? ⟨g,i*12+10,none⟩=some (.int .i64 l[i].o.m.N)/\w.cell? ⟨g,i*12+11,none⟩=some (.int .i64 l[i].c))/\w.frozen? ⟨g,i*12,none⟩=false/\w.frozen? ⟨g,i*12+1,none⟩=false/\w.frozen? ⟨g,i*12+2,none⟩=false/\w.frozen? ⟨g,i*12+3,none⟩=false/\w.frozen? ⟨g,i*12+4,none⟩=false/\w.frozen? ⟨g,i*12+5,none⟩=false/\w.frozen? ⟨g,i*12+6,none⟩=false/\w.frozen? ⟨g,i*12+7,none⟩=false/\w.frozen? ⟨g,i*12+8,none⟩=false/\w.frozen? ⟨g,i*12+9,none⟩=false/\w.frozen? ⟨g,i*12+10,none⟩=false/\w.frozen? ⟨g,i*12+11,none⟩=false:=by
 obtain⟨e,hg,hc⟩:=h i hi;exact⟨e,hg,⟨by simpa using(hc 0 Aaa).1,by simpa using(hc 1 Aaa).1,by simpa using(hc 2 Aaa).1,by simpa using(hc 3 Aaa).1,by simpa using(hc 4 Aaa).1,by simpa using(hc 5 Aaa).1,by simpa using(hc 6 Aaa).1,by simpa using(hc 7 Aaa).1,by simpa using(hc 8 Aaa).1,by simpa using(hc 9 Aaa).1,by simpa using(hc 10 Aaa).1,by simpa using(hc 11 Aaa).1⟩,by simpa using(hc 0 Aaa).2,(hc 1 Aaa).2,(hc 2 Aaa).2,(hc 3 Aaa).2,(hc 4 Aaa).2,(hc 5 Aaa).2,(hc 6 Aaa).2,(hc 7 Aaa).2,(hc 8 Aaa).2,(hc 9 Aaa).2,(hc 10 Aaa).2,(hc 11 Aaa).2⟩
theorem afs (a:Option Addr) (g c s:Nat) (l:List An) (w:World) (hs0:0 < s) (hs1:s<=4000000000000000) (hl:l.length<=1048600) (ha:GR.W eU 12 w a g l):
 Calls Tryz.prog 14 #[.slice a l.length c,.int .i64 s] w λe w'=>e= .returned (.int .i64 (s+12*(l.length:Int)))/\GR.W eU 12 w' a g (jW jo 12 s l l.length)/\aA (fp g l) w w':=by
 have HA:=Hq ha;clear ha;go_in
 go_wp2_with fail;go_loopw [1,5] (λkk i wr=>∃k m:Nat,k<=l.length/\i= .int .i64 k/\kk= .int .i64 m/\m=s+12*k/\GR.W eU 12 wr a g (jW jo 12 s l k)/\aA (fp g l) w wr) (λ_ i _=>l.length - (intOf i).toNat)
 case atStart=>exact X9
 case round=>
  open apI in exact Te
theorem ae8 (a:Option Addr) (g c n s:Nat) (l:List An) (w:World) (hn:n=l.length) (hs0:0 < s) (hs1:s<=4000000000000000) (hl:l.length<=1048600) (ha:GR.W eU 12 w a g (jW jo 12 s l l.length)):
 Calls Tryz.prog 17 #[.slice a n c,.int .i64 s] w (dU w (.int .i64 (s+12*(l.length:Int)))):=by
 have HA:=Hq ha;clear ha;subst hn;go_in
 go_wp2_with fail;go_loopw [1,5] (λkk i wr=>∃k m:Nat,k<=l.length/\i= .int .i64 k/\kk= .int .i64 m/\m=s+12*k/\aH w wr) (λ_ i _=>l.length - (intOf i).toNat)
 case atStart=>exact Tp
 case round=>
  open ar0 in exact E8
end Go.Proofs.YtbolgdleijjgfaaGreatDoor
