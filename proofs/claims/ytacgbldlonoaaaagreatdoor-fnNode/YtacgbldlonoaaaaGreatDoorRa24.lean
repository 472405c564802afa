/- Parts. -/
import Derived.Test.YtacgbldlonoaaaaGreatDoorRa23
namespace Go.Proofs.YtacgbldlonoaaaaGreatDoor
set_option maxHeartbeats 2000000
set_option maxRecDepth 100000
open Go.RowKit
open Mth
def rH (m:Mg):Value:=
 if m.K=0 then .iface 154 (.agg #[.int .i64 m.F,.int .i64 m.T,.string m.k,.int .i64 m.N])
 else if m.K=1 then .iface 156 (.agg #[.int .i64 m.F,.int .i64 m.T,.int .i64 m.I,.int .i64 m.L,.string m.k,.int .i64 m.N])
 else if m.K=2 then .iface 158 (.agg #[.int .i64 m.F,.int .i64 m.T,.int .i64 m.I])
 else .nilIface
theorem Ml (v:Value) (w:World):(method 467 154 v "loop.example/g00264/impl.ok").run Tryz.prog w= .ok (297,v) w:=by kernel_rfl
theorem SE (v:Value) (w:World):(method 467 156 v "loop.example/g00264/impl.ok").run Tryz.prog w= .ok (298,v) w:=by kernel_rfl
theorem SA (v:Value) (w:World):(method 467 158 v "loop.example/g00264/impl.ok").run Tryz.prog w= .ok (299,v) w:=by kernel_rfl
theorem vO (F:Int) (T:Int) (I:Int) (L:Int) (k:ByteArray) (N:Int) (w:World) (hr:(jZ F T&&keyOk k.data.toList&&eD N)=false):Calls Tryz.prog 65 #[nX ⟨0,F,T,I,L,k,N⟩] w fun e w'=>e= .returned (.tuple #[rH ⟨0,F,T,I,L,k,N⟩,.bool (bJ ⟨0,F,T,I,L,k,N⟩)])∧Below w.heap.size w w':=by
 have HP:=hide (show bJ ⟨0,F,T,I,L,k,N⟩=false by simp only[Bool.and_eq_false_iff] at hr;rcases hr with(h|h)|h<;>simp[bJ,h]);have HO:=hide (fun w1=>Fp F T k N false w1 hr);open ahd in exact Bb
theorem vN (F:Int) (T:Int) (I:Int) (L:Int) (k:ByteArray) (N:Int) (w:World) (hr:(jZ F T&&keyOk k.data.toList&&eD N)=true) (hI:¬0=I):Calls Tryz.prog 65 #[nX ⟨0,F,T,I,L,k,N⟩] w fun e w'=>e= .returned (.tuple #[rH ⟨0,F,T,I,L,k,N⟩,.bool (bJ ⟨0,F,T,I,L,k,N⟩)])∧Below w.heap.size w w':=by
 have HP:=hide (show bJ ⟨0,F,T,I,L,k,N⟩=false by simp only[Bool.and_eq_true] at hr;obtain⟨⟨h1,h2⟩,h3⟩:=hr;simp[bJ,h1,h2,h3,Ne.symm hI]);have HO:=hide (fun w1=>Fp F T k N true w1 hr);have HM:=hide (fun w1=>tX F T k N w1);open ahc in exact Bb
theorem tQ (F:Int) (T:Int) (L:Int) (k:ByteArray) (N:Int) (w:World) (hr:(jZ F T&&keyOk k.data.toList&&eD N)=true) (hL:¬0=L):Calls Tryz.prog 65 #[nX ⟨0,F,T,0,L,k,N⟩] w fun e w'=>e= .returned (.tuple #[rH ⟨0,F,T,0,L,k,N⟩,.bool (bJ ⟨0,F,T,0,L,k,N⟩)])∧Below w.heap.size w w':=by
 have HP:=hide (show bJ ⟨0,F,T,0,L,k,N⟩=false by simp only[Bool.and_eq_true] at hr;obtain⟨⟨h1,h2⟩,h3⟩:=hr;simp[bJ,h1,h2,h3,Ne.symm hL]);have HO:=hide (fun w1=>Fp F T k N true w1 hr);have HM:=hide (fun w1=>tX F T k N w1);open ahb in exact Bb
theorem tV (F:Int) (T:Int) (k:ByteArray) (N:Int) (w:World) (hr:(jZ F T&&keyOk k.data.toList&&eD N)=true):Calls Tryz.prog 65 #[nX ⟨0,F,T,0,0,k,N⟩] w fun e w'=>e= .returned (.tuple #[rH ⟨0,F,T,0,0,k,N⟩,.bool (bJ ⟨0,F,T,0,0,k,N⟩)])∧Below w.heap.size w w':=by
 have HP:=hide (show bJ ⟨0,F,T,0,0,k,N⟩=true by simp only[Bool.and_eq_true] at hr;obtain⟨⟨h1,h2⟩,h3⟩:=hr;simp[bJ,h1,h2,h3]);have HO:=hide (fun w1=>Fp F T k N true w1 hr);have HM:=hide (fun w1=>tX F T k N w1);open aha in exact Bb
theorem xB (F:Int) (T:Int) (I:Int) (L:Int) (k:ByteArray) (N:Int) (w:World) (hr:(jZ F T&&eD I&&decide (1≤L)&&decide (L≤I)&&keyOk k.data.toList&&eD N)=false):Calls Tryz.prog 65 #[nX ⟨1,F,T,I,L,k,N⟩] w fun e w'=>e= .returned (.tuple #[rH ⟨1,F,T,I,L,k,N⟩,.bool (bJ ⟨1,F,T,I,L,k,N⟩)])∧Below w.heap.size w w':=by
 have HP:=hide (show bJ ⟨1,F,T,I,L,k,N⟩=false by simp only[Bool.and_eq_false_iff,decide_eq_false_iff_not] at hr;rcases hr with((((h|h)|h)|h)|h)|h<;>simp[bJ,h]<;>omega);have HO:=hide (fun w1=>aaf F T I L k N false w1 hr);open ag9 in exact Bb
theorem vM (F:Int) (T:Int) (I:Int) (L:Int) (k:ByteArray) (N:Int) (w:World) (hr:(jZ F T&&eD I&&decide (1≤L)&&decide (L≤I)&&keyOk k.data.toList&&eD N)=true):Calls Tryz.prog 65 #[nX ⟨1,F,T,I,L,k,N⟩] w fun e w'=>e= .returned (.tuple #[rH ⟨1,F,T,I,L,k,N⟩,.bool (bJ ⟨1,F,T,I,L,k,N⟩)])∧Below w.heap.size w w':=by
 have HP:=hide (show bJ ⟨1,F,T,I,L,k,N⟩=true by simp only[Bool.and_eq_true,decide_eq_true_iff] at hr;obtain⟨⟨⟨⟨⟨h1,h2⟩,h3⟩,h4⟩,h5⟩,h6⟩:=hr;simp[bJ,h1,h2,h3,h4,h5,h6]);have HO:=hide (fun w1=>aaf F T I L k N true w1 hr);have HM:=hide (fun w1=>Ol F T I L k N w1);open ag8 in exact Bb
theorem xA (F:Int) (T:Int) (I:Int) (L:Int) (k:ByteArray) (N:Int) (w:World) (hr:(jZ F T&&eD I)=false):Calls Tryz.prog 65 #[nX ⟨2,F,T,I,L,k,N⟩] w fun e w'=>e= .returned (.tuple #[rH ⟨2,F,T,I,L,k,N⟩,.bool (bJ ⟨2,F,T,I,L,k,N⟩)])∧Below w.heap.size w w':=by
 have HP:=hide (show bJ ⟨2,F,T,I,L,k,N⟩=false by simp only[Bool.and_eq_false_iff] at hr;rcases hr with h|h<;>simp[bJ,h]);have HO:=hide (fun w1=>Gl F T I false w1 hr);open ag7 in exact Bb
theorem vK (F:Int) (T:Int) (I:Int) (L:Int) (k:ByteArray) (N:Int) (w:World) (hr:(jZ F T&&eD I)=true) (hL:¬0=L):Calls Tryz.prog 65 #[nX ⟨2,F,T,I,L,k,N⟩] w fun e w'=>e= .returned (.tuple #[rH ⟨2,F,T,I,L,k,N⟩,.bool (bJ ⟨2,F,T,I,L,k,N⟩)])∧Below w.heap.size w w':=by
 have HP:=hide (show bJ ⟨2,F,T,I,L,k,N⟩=false by simp only[Bool.and_eq_true] at hr;obtain⟨h1,h2⟩:=hr;simp[bJ,h1,h2,Ne.symm hL]);have HO:=hide (fun w1=>Gl F T I true w1 hr);have HM:=hide (fun w1=>rM F T I w1);open ag6 in exact Bb
theorem vJ (F:Int) (T:Int) (I:Int) (k:ByteArray) (N:Int) (w:World) (hr:(jZ F T&&eD I)=true) (hk:¬k.size=0):Calls Tryz.prog 65 #[nX ⟨2,F,T,I,0,k,N⟩] w fun e w'=>e= .returned (.tuple #[rH ⟨2,F,T,I,0,k,N⟩,.bool (bJ ⟨2,F,T,I,0,k,N⟩)])∧Below w.heap.size w w':=by
 have HP:=hide (show bJ ⟨2,F,T,I,0,k,N⟩=false by simp only[Bool.and_eq_true] at hr;obtain⟨h1,h2⟩:=hr;simp[bJ,h1,h2,hk]);have HO:=hide (fun w1=>Gl F T I true w1 hr);have HM:=hide (fun w1=>rM F T I w1);clear hr;have hne:¬k.toList=[]:=by rw [ByteArray.toList_eq];intro h;have:=gU k;rw [h] at this;simp at this;omega
 have hne2:¬[]=k.toList:=fun h=>hne h.symm
 clear hk;go_enter Tryz.func65,Tryz.ntmps65
 go_upto_region 11 with fail;refine wp_at (fun V hV=>?_);have hblk:V.heap[w.heap.size]?=some (.cells #[.int .i64 2,.int .i64 F,.int .i64 T,.int .i64 I,.int .i64 0,.string k,.int .i64 N] 32 (0,0)):=by rw [hV,Below.heap_alloc _ _ _ (by simp)];exact heap_alloc_new w _
 open aoT in exact Ya6
theorem yF (F:Int) (T:Int) (I:Int) (N:Int) (w:World) (hr:(jZ F T&&eD I)=true) (hN:¬0=N):Calls Tryz.prog 65 #[nX ⟨2,F,T,I,0,ByteArray.empty,N⟩] w fun e w'=>e= .returned (.tuple #[rH ⟨2,F,T,I,0,ByteArray.empty,N⟩,.bool (bJ ⟨2,F,T,I,0,ByteArray.empty,N⟩)])∧Below w.heap.size w w':=by
 have HP:=hide (show bJ ⟨2,F,T,I,0,ByteArray.empty,N⟩=false by simp only[Bool.and_eq_true] at hr;obtain⟨h1,h2⟩:=hr;simp[bJ,h1,h2,Ne.symm hN]);have HO:=hide (fun w1=>Gl F T I true w1 hr);have HM:=hide (fun w1=>rM F T I w1);open ag5 in exact Bb
theorem vL (F:Int) (T:Int) (I:Int) (w:World) (hr:(jZ F T&&eD I)=true):Calls Tryz.prog 65 #[nX ⟨2,F,T,I,0,ByteArray.empty,0⟩] w fun e w'=>e= .returned (.tuple #[rH ⟨2,F,T,I,0,ByteArray.empty,0⟩,.bool (bJ ⟨2,F,T,I,0,ByteArray.empty,0⟩)])∧Below w.heap.size w w':=by
 have HP:=hide (show bJ ⟨2,F,T,I,0,ByteArray.empty,0⟩=true by simp only[Bool.and_eq_true] at hr;obtain⟨h1,h2⟩:=hr;simp[bJ,h1,h2]);have HO:=hide (fun w1=>Gl F T I true w1 hr);have HM:=hide (fun w1=>rM F T I w1);open ag4 in exact Bb
theorem zV (K F T I L:Int) (k:ByteArray) (N:Int) (w:World) (k0:¬K=0) (k1:¬K=1) (k2:¬K=2):Calls Tryz.prog 65 #[nX ⟨K,F,T,I,L,k,N⟩] w fun e w'=>e= .returned (.tuple #[rH ⟨K,F,T,I,L,k,N⟩,.bool (bJ ⟨K,F,T,I,L,k,N⟩)])∧Below w.heap.size w w':=by
 have HP:=hide (show bJ ⟨K,F,T,I,L,k,N⟩=false by simp[bJ,k0,k1,k2]);have HV:=hide (show rH ⟨K,F,T,I,L,k,N⟩= .nilIface by simp[rH,k0,k1,k2]);go_enter Tryz.func65,Tryz.ntmps65
 go_wp2_with fail;exact bodyPost_ret (v:= .tuple #[.nilIface,.bool false]) (by simp[results,Tryz.results65,go_sem]) rfl ⟨by rw [ah HP,ah HV],((Below.refl _ _).alloc (Nat.le_refl _) _).alloc (by simp) _⟩
theorem Oj (m:Mg) (w:World):Calls Tryz.prog 65 #[nX m] w fun e w'=>e= .returned (.tuple #[rH m,.bool (bJ m)])∧Below w.heap.size w w':=by
 obtain⟨K,F,T,I,L,k,N⟩:=m;by_cases k0:K=0
 ·subst k0;cases hr:(jZ F T&&keyOk k.data.toList&&eD N)
  ·exact vO F T I L k N w hr
  by_cases hI:0=I
  ·subst hI;by_cases hL:0=L
   ·subst hL;exact tV F T k N w hr
   ·exact tQ F T L k N w hr hL
  ·exact vN F T I L k N w hr hI
 by_cases k1:K=1
 ·subst k1;cases hr:(jZ F T&&eD I&&decide (1≤L)&&decide (L≤I)&&keyOk k.data.toList&&eD N)
  ·exact xB F T I L k N w hr
  ·exact vM F T I L k N w hr
 by_cases k2:K=2
 ·subst k2;cases hr:(jZ F T&&eD I)
  ·exact xA F T I L k N w hr
  by_cases hL:0=L
  ·subst hL;by_cases hk:k.size=0
   ·obtain rfl:=eq_empty k hk;by_cases hN:0=N
    ·subst hN;exact vL F T I w hr
    ·exact yF F T I N w hr hN
   ·exact vJ F T I k N w hr hk
  ·exact vK F T I L k N w hr hL
 exact zV K F T I L k N w k0 k1 k2
theorem Oe (m:Mg) (w:World):Calls Tryz.prog 20 #[nX m] w fun e w'=>e= .returned (.bool (bJ m))∧Below w.heap.size w w':=by
 have HM:=hide (fun w1=>Oj m w1);generalize bJ m=r at *;generalize rH m=v at *;obtain⟨K,F,T,I,L,k,N⟩:=m;go_enter Tryz.func20,Tryz.ntmps20
 go_wp2_with fail;refine(HM _).mono ?_;rintro e w1 ⟨rfl,hb1⟩;go_wp2
 go_ret;exact⟨rfl,(au w _).trans (hb1.mono (by simp))⟩
end Go.Proofs.YtacgbldlonoaaaaGreatDoor
