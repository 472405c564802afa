/- Parts. -/
import Derived.Test.YtbolgdleijjgfaaGreatDoorRf5
namespace Go.Proofs.YtbolgdleijjgfaaGreatDoor
open Go.Proofs.Tryz
set_option maxHeartbeats 2000000
set_option maxRecDepth 100000
open Go.RowKit
open Mth
variable (F:Int) (T:Int) (I:Int) (L:Int) (k:ByteArray) (N:Int) (w:World)
def xK (m:Mg):Value:=
 if m.K=0 then .iface 295 (.agg #[.int .i64 m.F,.int .i64 m.T,.string m.k,.int .i64 m.N])
 else if m.K=1 then .iface 297 (.agg #[.int .i64 m.F,.int .i64 m.T,.int .i64 m.I,.int .i64 m.L,.string m.k,.int .i64 m.N])
 else if m.K=2 then .iface 299 (.agg #[.int .i64 m.F,.int .i64 m.T,.int .i64 m.I])
 else .nilIface
theorem WX (v:Value) (w:World):(method 503 295 v "loop.example/g00264/impl.ok").run prog w= .ok (343,v) w:=Aab
theorem acV (v:Value) (w:World):(method 503 297 v "loop.example/g00264/impl.ok").run prog w= .ok (344,v) w:=Aab
theorem acU (v:Value) (w:World):(method 503 299 v "loop.example/g00264/impl.ok").run prog w= .ok (345,v) w:=Aab
theorem Bc (hr:(nG F T&&keyOk k.data.toList&&fJ N)=false):Calls prog 238 #[oJ ⟨0,F,T,I,L,k,N⟩] w (dU w (.tuple #[xK ⟨0,F,T,I,L,k,N⟩,.bool (bY ⟨0,F,T,I,L,k,N⟩)])):=by
 have HP:=Hq (show bY ⟨0,F,T,I,L,k,N⟩=false by simp only[Bool.and_eq_false_iff] at hr;rcases hr with(h|h)|h<;>simp[bY,h]);have HO:=Hq (λw1=>NW F T k N false w1 hr);open aqu in exact IK
theorem Bb (hr:(nG F T&&keyOk k.data.toList&&fJ N)=true) (hI:¬0=I):Calls prog 238 #[oJ ⟨0,F,T,I,L,k,N⟩] w (dU w (.tuple #[xK ⟨0,F,T,I,L,k,N⟩,.bool (bY ⟨0,F,T,I,L,k,N⟩)])):=by
 have HP:=Hq (show bY ⟨0,F,T,I,L,k,N⟩=false by simp only[aEX] at hr;obtain⟨⟨h1,h2⟩,h3⟩:=hr;simp[bY,h1,h2,h3,Ne.symm hI]);have HO:=Hq (λw1=>NW F T k N true w1 hr);have HM:=Hq (λw1=>zl F T k N w1);open aqt in exact IK
theorem zi (F:Int) (T:Int) (L:Int) (k:ByteArray) (N:Int) (w:World) (hr:(nG F T&&keyOk k.data.toList&&fJ N)=true) (hL:¬0=L):Calls prog 238 #[oJ ⟨0,F,T,0,L,k,N⟩] w (dU w (.tuple #[xK ⟨0,F,T,0,L,k,N⟩,.bool (bY ⟨0,F,T,0,L,k,N⟩)])):=by
 have HP:=Hq (show bY ⟨0,F,T,0,L,k,N⟩=false by simp only[aEX] at hr;obtain⟨⟨h1,h2⟩,h3⟩:=hr;simp[bY,h1,h2,h3,Ne.symm hL]);have HO:=Hq (λw1=>NW F T k N true w1 hr);have HM:=Hq (λw1=>zl F T k N w1);open aqs in exact IK
theorem zk (F:Int) (T:Int) (k:ByteArray) (N:Int) (w:World) (hr:(nG F T&&keyOk k.data.toList&&fJ N)=true):Calls prog 238 #[oJ ⟨0,F,T,0,0,k,N⟩] w (dU w (.tuple #[xK ⟨0,F,T,0,0,k,N⟩,.bool (bY ⟨0,F,T,0,0,k,N⟩)])):=by
 have HP:=Hq (show bY ⟨0,F,T,0,0,k,N⟩=true by simp only[aEX] at hr;obtain⟨⟨h1,h2⟩,h3⟩:=hr;simp[bY,h1,h2,h3]);have HO:=Hq (λw1=>NW F T k N true w1 hr);have HM:=Hq (λw1=>zl F T k N w1);open aqr in exact IK
theorem Cz (hr:(nG F T&&fJ I&&decide (1<=L)&&decide (L<=I)&&keyOk k.data.toList&&fJ N)=false):Calls prog 238 #[oJ ⟨1,F,T,I,L,k,N⟩] w (dU w (.tuple #[xK ⟨1,F,T,I,L,k,N⟩,.bool (bY ⟨1,F,T,I,L,k,N⟩)])):=by
 have HP:=Hq (show bY ⟨1,F,T,I,L,k,N⟩=false by simp only[Bool.and_eq_false_iff,aGS] at hr;rcases hr with((((h|h)|h)|h)|h)|h<;>simp[bY,h]<;>omega);have HO:=Hq (λw1=>ajc F T I L k N false w1 hr);open aqp in exact IK
theorem Ba (hr:(nG F T&&fJ I&&decide (1<=L)&&decide (L<=I)&&keyOk k.data.toList&&fJ N)=true):Calls prog 238 #[oJ ⟨1,F,T,I,L,k,N⟩] w (dU w (.tuple #[xK ⟨1,F,T,I,L,k,N⟩,.bool (bY ⟨1,F,T,I,L,k,N⟩)])):=by
 have HP:=Hq (show bY ⟨1,F,T,I,L,k,N⟩=true by simp only[aEX,aFu] at hr;obtain⟨⟨⟨⟨⟨h1,h2⟩,h3⟩,h4⟩,h5⟩,h6⟩:=hr;simp[bY,h1,h2,h3,h4,h5,h6]);have HO:=Hq (λw1=>ajc F T I L k N true w1 hr);have HM:=Hq (λw1=>YT F T I L k N w1);open aqo in exact IK
theorem Cw (hr:(nG F T&&fJ I)=false):Calls prog 238 #[oJ ⟨2,F,T,I,L,k,N⟩] w (dU w (.tuple #[xK ⟨2,F,T,I,L,k,N⟩,.bool (bY ⟨2,F,T,I,L,k,N⟩)])):=by
 have HP:=Hq (show bY ⟨2,F,T,I,L,k,N⟩=false by simp only[Bool.and_eq_false_iff] at hr;rcases hr with h|h<;>simp[bY,h]);have HO:=Hq (λw1=>O7 F T I false w1 hr);open aqn in exact IK
theorem AY (hr:(nG F T&&fJ I)=true) (hL:¬0=L):Calls prog 238 #[oJ ⟨2,F,T,I,L,k,N⟩] w (dU w (.tuple #[xK ⟨2,F,T,I,L,k,N⟩,.bool (bY ⟨2,F,T,I,L,k,N⟩)])):=by
 have HP:=Hq (show bY ⟨2,F,T,I,L,k,N⟩=false by simp only[aEX] at hr;obtain⟨h1,h2⟩:=hr;simp[bY,h1,h2,Ne.symm hL]);have HO:=Hq (λw1=>O7 F T I true w1 hr);have HM:=Hq (λw1=>xP F T I w1);open aqm in exact IK
theorem AV (F:Int) (T:Int) (I:Int) (k:ByteArray) (N:Int) (w:World) (hr:(nG F T&&fJ I)=true) (hk:¬k.size=0):Calls prog 238 #[oJ ⟨2,F,T,I,0,k,N⟩] w (dU w (.tuple #[xK ⟨2,F,T,I,0,k,N⟩,.bool (bY ⟨2,F,T,I,0,k,N⟩)])):=by
 have HP:=Hq (show bY ⟨2,F,T,I,0,k,N⟩=false by simp only[aEX] at hr;obtain⟨h1,h2⟩:=hr;simp[bY,h1,h2,hk]);have HO:=Hq (λw1=>O7 F T I true w1 hr);have HM:=Hq (λw1=>xP F T I w1);clear hr;have hne:¬k.toList=[]:=by rw [aFG];intro h;have:=bf k;rw [h] at this;simp at this;omega
 have hne2:¬[]=k.toList:=λh=>hne h.symm
 clear hk;go_in
 go_upto_region 11 with fail;refine wp_at (λV hV=>?_);have hblk:V.heap[w.heap.size]?=some (.cells (bX 2 F T I 0 k N) 70 (0,0)):=by rw [hV,aE4 _ _ _ Aac];exact aEP w _
 open aAA in exact Yk2
theorem Ei (F:Int) (T:Int) (I:Int) (N:Int) (w:World) (hr:(nG F T&&fJ I)=true) (hN:¬0=N):Calls prog 238 #[oJ ⟨2,F,T,I,0,ByteArray.empty,N⟩] w (dU w (.tuple #[xK ⟨2,F,T,I,0,ByteArray.empty,N⟩,.bool (bY ⟨2,F,T,I,0,ByteArray.empty,N⟩)])):=by
 have HP:=Hq (show bY ⟨2,F,T,I,0,ByteArray.empty,N⟩=false by simp only[aEX] at hr;obtain⟨h1,h2⟩:=hr;simp[bY,h1,h2,Ne.symm hN]);have HO:=Hq (λw1=>O7 F T I true w1 hr);have HM:=Hq (λw1=>xP F T I w1);open aql in exact IK
theorem AZ (F:Int) (T:Int) (I:Int) (w:World) (hr:(nG F T&&fJ I)=true):Calls prog 238 #[oJ ⟨2,F,T,I,0,ByteArray.empty,0⟩] w (dU w (.tuple #[xK ⟨2,F,T,I,0,ByteArray.empty,0⟩,.bool (bY ⟨2,F,T,I,0,ByteArray.empty,0⟩)])):=by
 have HP:=Hq (show bY ⟨2,F,T,I,0,ByteArray.empty,0⟩=true by simp only[aEX] at hr;obtain⟨h1,h2⟩:=hr;simp[bY,h1,h2]);have HO:=Hq (λw1=>O7 F T I true w1 hr);have HM:=Hq (λw1=>xP F T I w1);open aqk in exact IK
theorem Gd (K F T I L:Int) (k:ByteArray) (N:Int) (w:World) (k0:¬K=0) (k1:¬K=1) (k2:¬K=2):Calls prog 238 #[oJ ⟨K,F,T,I,L,k,N⟩] w (dU w (.tuple #[xK ⟨K,F,T,I,L,k,N⟩,.bool (bY ⟨K,F,T,I,L,k,N⟩)])):=by
 have HP:=Hq (show bY ⟨K,F,T,I,L,k,N⟩=false by simp[bY,k0,k1,k2]);have HV:=Hq (show xK ⟨K,F,T,I,L,k,N⟩= .nilIface by simp[xK,k0,k1,k2]);go_in
 go_wp2_with fail;exact aEY (v:= .tuple #[.nilIface,.bool false]) (by simp[results,results238,go_sem]) rfl ⟨by rw [ah HP,ah HV],((aE3 _ _).alloc (aER _) _).alloc Aac _⟩
theorem YR (m:Mg) (w:World):Calls prog 238 #[oJ m] w (dU w (.tuple #[xK m,.bool (bY m)])):=by
 obtain⟨K,F,T,I,L,k,N⟩:=m;by_cases k0:K=0
 .subst k0;cases hr:(nG F T&&keyOk k.data.toList&&fJ N)
  .exact Bc F T I L k N w hr
  by_cases hI:0=I
  .subst hI;by_cases hL:0=L
   .subst hL;exact zk F T k N w hr
   .exact zi F T L k N w hr hL
  .exact Bb F T I L k N w hr hI
 by_cases k1:K=1
 .subst k1;cases hr:(nG F T&&fJ I&&decide (1<=L)&&decide (L<=I)&&keyOk k.data.toList&&fJ N)
  .exact Cz F T I L k N w hr
  .exact Ba F T I L k N w hr
 by_cases k2:K=2
 .subst k2;cases hr:(nG F T&&fJ I)
  .exact Cw F T I L k N w hr
  by_cases hL:0=L
  .subst hL;by_cases hk:k.size=0
   .obtain rfl:=eq_empty k hk;by_cases hN:0=N
    .subst hN;exact AZ F T I w hr
    .exact Ei F T I N w hr hN
   .exact AV F T I k N w hr hk
  .exact AY F T I L k N w hr hL
 exact Gd K F T I L k N w k0 k1 k2
theorem Kj (m:Mg) (w:World):Calls prog 213 #[oJ m] w (dU w (.bool (bY m))):=by
 have HM:=Hq (λw1=>YR m w1);generalize bY m=r at *;generalize xK m=v at *;obtain⟨K,F,T,I,L,k,N⟩:=m;go_in
 go_wp2_with fail;refine(HM _).mono ?_;rintro e w1 ⟨rfl,hb1⟩;go_wp2
 go_ret;exact⟨rfl,(au w _).trans (hb1.mono Aac)⟩
end Go.Proofs.YtbolgdleijjgfaaGreatDoor
