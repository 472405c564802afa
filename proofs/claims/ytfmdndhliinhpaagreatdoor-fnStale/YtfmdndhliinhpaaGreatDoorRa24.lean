/- Parts. -/
import Derived.Test.YtfmdndhliinhpaaGreatDoorRa23
namespace Go.Proofs.YtfmdndhliinhpaaGreatDoor
set_option maxHeartbeats 2000000
set_option maxRecDepth 100000
open Go.RowKit
open Mth
def tK (m:Mg):Value:=
 if m.K=0 then .iface 140 (.agg #[.int .i64 m.F,.int .i64 m.T,.string m.k,.int .i64 m.N])
 else if m.K=1 then .iface 142 (.agg #[.int .i64 m.F,.int .i64 m.T,.int .i64 m.I,.int .i64 m.L,.string m.k,.int .i64 m.N])
 else if m.K=2 then .iface 144 (.agg #[.int .i64 m.F,.int .i64 m.T,.int .i64 m.I])
 else .nilIface
theorem OU (v:Value) (w:World):(method 358 140 v "loop.example/g00264/impl.ok").run Tryz.prog w= .ok (192,v) w:=by kernel_rfl
theorem VD (v:Value) (w:World):(method 358 142 v "loop.example/g00264/impl.ok").run Tryz.prog w= .ok (193,v) w:=by kernel_rfl
theorem VB (v:Value) (w:World):(method 358 144 v "loop.example/g00264/impl.ok").run Tryz.prog w= .ok (194,v) w:=by kernel_rfl
theorem wR (F:Int) (T:Int) (I:Int) (L:Int) (k:ByteArray) (N:Int) (w:World) (hr:(lI F T&&keyOk k.data.toList&&eU N)=false):Calls Tryz.prog 102 #[qd ⟨0,F,T,I,L,k,N⟩] w fun e w'=>e= .returned (.tuple #[tK ⟨0,F,T,I,L,k,N⟩,.bool (dw ⟨0,F,T,I,L,k,N⟩)])∧Below w.heap.size w w':=by
 have HP:=hide (show dw ⟨0,F,T,I,L,k,N⟩=false by simp only[Bool.and_eq_false_iff] at hr;rcases hr with(h|h)|h<;>simp[dw,h]);have HO:=hide (fun w1=>Hg F T k N false w1 hr);open akf in exact uz
theorem wQ (F:Int) (T:Int) (I:Int) (L:Int) (k:ByteArray) (N:Int) (w:World) (hr:(lI F T&&keyOk k.data.toList&&eU N)=true) (hI:¬0=I):Calls Tryz.prog 102 #[qd ⟨0,F,T,I,L,k,N⟩] w fun e w'=>e= .returned (.tuple #[tK ⟨0,F,T,I,L,k,N⟩,.bool (dw ⟨0,F,T,I,L,k,N⟩)])∧Below w.heap.size w w':=by
 have HP:=hide (show dw ⟨0,F,T,I,L,k,N⟩=false by simp only[Bool.and_eq_true] at hr;obtain⟨⟨h1,h2⟩,h3⟩:=hr;simp[dw,h1,h2,h3,Ne.symm hI]);have HO:=hide (fun w1=>Hg F T k N true w1 hr);have HM:=hide (fun w1=>uW F T k N w1);open ake in exact uz
theorem uU (F:Int) (T:Int) (L:Int) (k:ByteArray) (N:Int) (w:World) (hr:(lI F T&&keyOk k.data.toList&&eU N)=true) (hL:¬0=L):Calls Tryz.prog 102 #[qd ⟨0,F,T,0,L,k,N⟩] w fun e w'=>e= .returned (.tuple #[tK ⟨0,F,T,0,L,k,N⟩,.bool (dw ⟨0,F,T,0,L,k,N⟩)])∧Below w.heap.size w w':=by
 have HP:=hide (show dw ⟨0,F,T,0,L,k,N⟩=false by simp only[Bool.and_eq_true] at hr;obtain⟨⟨h1,h2⟩,h3⟩:=hr;simp[dw,h1,h2,h3,Ne.symm hL]);have HO:=hide (fun w1=>Hg F T k N true w1 hr);have HM:=hide (fun w1=>uW F T k N w1);open akd in exact uz
theorem uV (F:Int) (T:Int) (k:ByteArray) (N:Int) (w:World) (hr:(lI F T&&keyOk k.data.toList&&eU N)=true):Calls Tryz.prog 102 #[qd ⟨0,F,T,0,0,k,N⟩] w fun e w'=>e= .returned (.tuple #[tK ⟨0,F,T,0,0,k,N⟩,.bool (dw ⟨0,F,T,0,0,k,N⟩)])∧Below w.heap.size w w':=by
 have HP:=hide (show dw ⟨0,F,T,0,0,k,N⟩=true by simp only[Bool.and_eq_true] at hr;obtain⟨⟨h1,h2⟩,h3⟩:=hr;simp[dw,h1,h2,h3]);have HO:=hide (fun w1=>Hg F T k N true w1 hr);have HM:=hide (fun w1=>uW F T k N w1);open akc in exact uz
theorem yM (F:Int) (T:Int) (I:Int) (L:Int) (k:ByteArray) (N:Int) (w:World) (hr:(lI F T&&eU I&&decide (1≤L)&&decide (L≤I)&&keyOk k.data.toList&&eU N)=false):Calls Tryz.prog 102 #[qd ⟨1,F,T,I,L,k,N⟩] w fun e w'=>e= .returned (.tuple #[tK ⟨1,F,T,I,L,k,N⟩,.bool (dw ⟨1,F,T,I,L,k,N⟩)])∧Below w.heap.size w w':=by
 have HP:=hide (show dw ⟨1,F,T,I,L,k,N⟩=false by simp only[Bool.and_eq_false_iff,decide_eq_false_iff_not] at hr;rcases hr with((((h|h)|h)|h)|h)|h<;>simp[dw,h]<;>omega);have HO:=hide (fun w1=>acG F T I L k N false w1 hr);open akb in exact uz
theorem wP (F:Int) (T:Int) (I:Int) (L:Int) (k:ByteArray) (N:Int) (w:World) (hr:(lI F T&&eU I&&decide (1≤L)&&decide (L≤I)&&keyOk k.data.toList&&eU N)=true):Calls Tryz.prog 102 #[qd ⟨1,F,T,I,L,k,N⟩] w fun e w'=>e= .returned (.tuple #[tK ⟨1,F,T,I,L,k,N⟩,.bool (dw ⟨1,F,T,I,L,k,N⟩)])∧Below w.heap.size w w':=by
 have HP:=hide (show dw ⟨1,F,T,I,L,k,N⟩=true by simp only[Bool.and_eq_true,decide_eq_true_iff] at hr;obtain⟨⟨⟨⟨⟨h1,h2⟩,h3⟩,h4⟩,h5⟩,h6⟩:=hr;simp[dw,h1,h2,h3,h4,h5,h6]);have HO:=hide (fun w1=>acG F T I L k N true w1 hr);have HM:=hide (fun w1=>Qx F T I L k N w1);open aj9 in exact uz
theorem yL (F:Int) (T:Int) (I:Int) (L:Int) (k:ByteArray) (N:Int) (w:World) (hr:(lI F T&&eU I)=false):Calls Tryz.prog 102 #[qd ⟨2,F,T,I,L,k,N⟩] w fun e w'=>e= .returned (.tuple #[tK ⟨2,F,T,I,L,k,N⟩,.bool (dw ⟨2,F,T,I,L,k,N⟩)])∧Below w.heap.size w w':=by
 have HP:=hide (show dw ⟨2,F,T,I,L,k,N⟩=false by simp only[Bool.and_eq_false_iff] at hr;rcases hr with h|h<;>simp[dw,h]);have HO:=hide (fun w1=>IZ F T I false w1 hr);open aj8 in exact uz
theorem wN (F:Int) (T:Int) (I:Int) (L:Int) (k:ByteArray) (N:Int) (w:World) (hr:(lI F T&&eU I)=true) (hL:¬0=L):Calls Tryz.prog 102 #[qd ⟨2,F,T,I,L,k,N⟩] w fun e w'=>e= .returned (.tuple #[tK ⟨2,F,T,I,L,k,N⟩,.bool (dw ⟨2,F,T,I,L,k,N⟩)])∧Below w.heap.size w w':=by
 have HP:=hide (show dw ⟨2,F,T,I,L,k,N⟩=false by simp only[Bool.and_eq_true] at hr;obtain⟨h1,h2⟩:=hr;simp[dw,h1,h2,Ne.symm hL]);have HO:=hide (fun w1=>IZ F T I true w1 hr);have HM:=hide (fun w1=>tO F T I w1);open aj7 in exact uz
theorem wM (F:Int) (T:Int) (I:Int) (k:ByteArray) (N:Int) (w:World) (hr:(lI F T&&eU I)=true) (hk:¬k.size=0):Calls Tryz.prog 102 #[qd ⟨2,F,T,I,0,k,N⟩] w fun e w'=>e= .returned (.tuple #[tK ⟨2,F,T,I,0,k,N⟩,.bool (dw ⟨2,F,T,I,0,k,N⟩)])∧Below w.heap.size w w':=by
 have HP:=hide (show dw ⟨2,F,T,I,0,k,N⟩=false by simp only[Bool.and_eq_true] at hr;obtain⟨h1,h2⟩:=hr;simp[dw,h1,h2,hk]);have HO:=hide (fun w1=>IZ F T I true w1 hr);have HM:=hide (fun w1=>tO F T I w1);clear hr;have hne:¬k.toList=[]:=by rw [ByteArray.toList_eq];intro h;have:=iq k;rw [h] at this;simp at this;omega
 have hne2:¬[]=k.toList:=fun h=>hne h.symm
 clear hk;go_enter Tryz.func102,Tryz.ntmps102
 go_upto_region 11 with fail;refine wp_at (fun V hV=>?_);have hblk:V.heap[w.heap.size]?=some (.cells #[.int .i64 2,.int .i64 F,.int .i64 T,.int .i64 I,.int .i64 0,.string k,.int .i64 N] 32 (0,0)):=by rw [hV,Below.heap_alloc _ _ _ (by simp)];exact heap_alloc_new w _
 open atb in exact Ya7
theorem zU (F:Int) (T:Int) (I:Int) (N:Int) (w:World) (hr:(lI F T&&eU I)=true) (hN:¬0=N):Calls Tryz.prog 102 #[qd ⟨2,F,T,I,0,ByteArray.empty,N⟩] w fun e w'=>e= .returned (.tuple #[tK ⟨2,F,T,I,0,ByteArray.empty,N⟩,.bool (dw ⟨2,F,T,I,0,ByteArray.empty,N⟩)])∧Below w.heap.size w w':=by
 have HP:=hide (show dw ⟨2,F,T,I,0,ByteArray.empty,N⟩=false by simp only[Bool.and_eq_true] at hr;obtain⟨h1,h2⟩:=hr;simp[dw,h1,h2,Ne.symm hN]);have HO:=hide (fun w1=>IZ F T I true w1 hr);have HM:=hide (fun w1=>tO F T I w1);open aj6 in exact uz
theorem wO (F:Int) (T:Int) (I:Int) (w:World) (hr:(lI F T&&eU I)=true):Calls Tryz.prog 102 #[qd ⟨2,F,T,I,0,ByteArray.empty,0⟩] w fun e w'=>e= .returned (.tuple #[tK ⟨2,F,T,I,0,ByteArray.empty,0⟩,.bool (dw ⟨2,F,T,I,0,ByteArray.empty,0⟩)])∧Below w.heap.size w w':=by
 have HP:=hide (show dw ⟨2,F,T,I,0,ByteArray.empty,0⟩=true by simp only[Bool.and_eq_true] at hr;obtain⟨h1,h2⟩:=hr;simp[dw,h1,h2]);have HO:=hide (fun w1=>IZ F T I true w1 hr);have HM:=hide (fun w1=>tO F T I w1);open aj5 in exact uz
theorem BL (K F T I L:Int) (k:ByteArray) (N:Int) (w:World) (k0:¬K=0) (k1:¬K=1) (k2:¬K=2):Calls Tryz.prog 102 #[qd ⟨K,F,T,I,L,k,N⟩] w fun e w'=>e= .returned (.tuple #[tK ⟨K,F,T,I,L,k,N⟩,.bool (dw ⟨K,F,T,I,L,k,N⟩)])∧Below w.heap.size w w':=by
 have HP:=hide (show dw ⟨K,F,T,I,L,k,N⟩=false by simp[dw,k0,k1,k2]);have HV:=hide (show tK ⟨K,F,T,I,L,k,N⟩= .nilIface by simp[tK,k0,k1,k2]);go_enter Tryz.func102,Tryz.ntmps102
 go_wp2_with fail;exact bodyPost_ret (v:= .tuple #[.nilIface,.bool false]) (by simp[results,Tryz.results102,go_sem]) rfl ⟨by rw [ah HP,ah HV],((Below.refl _ _).alloc (Nat.le_refl _) _).alloc (by simp) _⟩
theorem Qw (m:Mg) (w:World):Calls Tryz.prog 102 #[qd m] w fun e w'=>e= .returned (.tuple #[tK m,.bool (dw m)])∧Below w.heap.size w w':=by
 obtain⟨K,F,T,I,L,k,N⟩:=m;by_cases k0:K=0
 ·subst k0;cases hr:(lI F T&&keyOk k.data.toList&&eU N)
  ·exact wR F T I L k N w hr
  by_cases hI:0=I
  ·subst hI;by_cases hL:0=L
   ·subst hL;exact uV F T k N w hr
   ·exact uU F T L k N w hr hL
  ·exact wQ F T I L k N w hr hI
 by_cases k1:K=1
 ·subst k1;cases hr:(lI F T&&eU I&&decide (1≤L)&&decide (L≤I)&&keyOk k.data.toList&&eU N)
  ·exact yM F T I L k N w hr
  ·exact wP F T I L k N w hr
 by_cases k2:K=2
 ·subst k2;cases hr:(lI F T&&eU I)
  ·exact yL F T I L k N w hr
  by_cases hL:0=L
  ·subst hL;by_cases hk:k.size=0
   ·obtain rfl:=eq_empty k hk;by_cases hN:0=N
    ·subst hN;exact wO F T I w hr
    ·exact zU F T I N w hr hN
   ·exact wM F T I k N w hr hk
  ·exact wN F T I L k N w hr hL
 exact BL K F T I L k N w k0 k1 k2
theorem Qq (m:Mg) (w:World):Calls Tryz.prog 75 #[qd m] w fun e w'=>e= .returned (.bool (dw m))∧Below w.heap.size w w':=by
 have HM:=hide (fun w1=>Qw m w1);generalize dw m=r at *;generalize tK m=v at *;obtain⟨K,F,T,I,L,k,N⟩:=m;go_enter Tryz.func75,Tryz.ntmps75
 go_wp2_with fail;refine(HM _).mono ?_;rintro e w1 ⟨rfl,hb1⟩;go_wp2
 go_ret;exact⟨rfl,(ay w _).trans (hb1.mono (by simp))⟩
end Go.Proofs.YtfmdndhliinhpaaGreatDoor
