/- Parts. -/
import Derived.Test.YtohmklmkjmlpjaaGreatDoorRk11
import Derived.Test.YtohmklmkjmlpjaaGreatDoorRk6
namespace Go.Proofs.YtohmklmkjmlpjaaGreatDoor
open Go.Proofs.Tryz
set_option maxHeartbeats 4000000
set_option maxRecDepth 100000
open Go.RowKit
open Mth
variable (F:Int) (T:Int) (I:Int) (L:Int) (k:ByteArray) (N:Int) (w:World) {s:ByteArray} {i:Int} {n c:Nat} {G:Option (Nat×Nat)} {a b:List UInt8}
theorem Ku (v:Value) (w:World):(Instr.typeAssert (.iface 282 v) 253 282 true).run prog w= .ok (.tuple #[v,.bool true]) w:=Aab
theorem Oq (v:Value) (w:World):(Instr.typeAssert (.iface 284 v) 253 282 true).run prog w= .ok (.tuple #[.agg #[.int .i64 0,.int .i64 0,.string ⟨#[]⟩,.int .i64 0],.bool false]) w:=Aab
theorem Sg (v:Value) (w:World):(Instr.typeAssert (.iface 284 v) 253 284 true).run prog w= .ok (.tuple #[v,.bool true]) w:=Aab
theorem Oo (v:Value) (w:World):(Instr.typeAssert (.iface 286 v) 253 282 true).run prog w= .ok (.tuple #[.agg #[.int .i64 0,.int .i64 0,.string ⟨#[]⟩,.int .i64 0],.bool false]) w:=Aab
theorem Sd (v:Value) (w:World):(Instr.typeAssert (.iface 286 v) 253 284 true).run prog w= .ok (.tuple #[.agg #[.int .i64 0,.int .i64 0,.int .i64 0,.int .i64 0,.string ⟨#[]⟩,.int .i64 0],.bool false]) w:=Aab
theorem Sc (v:Value) (w:World):(Instr.typeAssert (.iface 286 v) 253 286 true).run prog w= .ok (.tuple #[v,.bool true]) w:=Aab
theorem yh (F T:Int) (k:ByteArray) (N:Int) (w:World):Calls prog 259 #[.iface 282 (.agg #[.int .i64 F,.int .i64 T,.string k,.int .i64 N])] w (eG w (nK ⟨0,F,T,0,0,k,N⟩)):=by
 have f0:=Ku (.agg #[.int .i64 F,.int .i64 T,.string k,.int .i64 N]);go_in
 go_wp2_with fail;refine bodyPost_ret (v:= .agg (bV 0 F T 0 0 k N)) Adb rfl ⟨rfl,?_⟩;exact aax
theorem Xr (F T I L:Int) (k:ByteArray) (N:Int) (w:World):Calls prog 259 #[.iface 284 (.agg #[.int .i64 F,.int .i64 T,.int .i64 I,.int .i64 L,.string k,.int .i64 N])] w (eG w (nK ⟨1,F,T,I,L,k,N⟩)):=by
 have f0:=Oq (.agg #[.int .i64 F,.int .i64 T,.int .i64 I,.int .i64 L,.string k,.int .i64 N]);have f1:=Sg (.agg #[.int .i64 F,.int .i64 T,.int .i64 I,.int .i64 L,.string k,.int .i64 N]);go_in
 go_wp2_with fail;refine bodyPost_ret (v:= .agg (bV 1 F T I L k N)) Adb rfl ⟨rfl,?_⟩;exact aax
theorem wB (F T I:Int) (w:World):Calls prog 259 #[.iface 286 (.agg #[.int .i64 F,.int .i64 T,.int .i64 I])] w (eG w (nK ⟨2,F,T,I,0,ByteArray.empty,0⟩)):=by
 have f0:=Oo (.agg #[.int .i64 F,.int .i64 T,.int .i64 I]);have f1:=Sd (.agg #[.int .i64 F,.int .i64 T,.int .i64 I]);have f2:=Sc (.agg #[.int .i64 F,.int .i64 T,.int .i64 I]);go_in
 go_wp2_with fail;refine bodyPost_ret (v:= .agg (bV 2 F T I 0 ByteArray.empty 0)) Adb rfl ⟨rfl,?_⟩;exact aax
def vZ (m:Mg):Value:=
 if m.K=0 then .iface 282 (.agg #[.int .i64 m.F,.int .i64 m.T,.string m.k,.int .i64 m.N])
 else if m.K=1 then .iface 284 (.agg #[.int .i64 m.F,.int .i64 m.T,.int .i64 m.I,.int .i64 m.L,.string m.k,.int .i64 m.N])
 else if m.K=2 then .iface 286 (.agg #[.int .i64 m.F,.int .i64 m.T,.int .i64 m.I])
 else .nilIface
theorem Vw (v:Value) (w:World):(method 501 282 v "loop.example/g00264/impl.ok").run prog w= .ok (342,v) w:=Aab
theorem ab9 (v:Value) (w:World):(method 501 284 v "loop.example/g00264/impl.ok").run prog w= .ok (343,v) w:=Aab
theorem ab8 (v:Value) (w:World):(method 501 286 v "loop.example/g00264/impl.ok").run prog w= .ok (344,v) w:=Aab
theorem zL (hr:(mh F T&&keyOk k.data.toList&&fF N)=false):Calls prog 234 #[nK ⟨0,F,T,I,L,k,N⟩] w (eG w (.tuple #[vZ ⟨0,F,T,I,L,k,N⟩,.bool (cZ ⟨0,F,T,I,L,k,N⟩)])):=by
 have HP:=Hq (show cZ ⟨0,F,T,I,L,k,N⟩=false by simp only[Bool.and_eq_false_iff] at hr;rcases hr with(h|h)|h<;>simp[cZ,h]);have HO:=Hq (λw1=>MV F T k N false w1 hr);open aqm in exact Gu
theorem zK (hr:(mh F T&&keyOk k.data.toList&&fF N)=true) (hI:¬0=I):Calls prog 234 #[nK ⟨0,F,T,I,L,k,N⟩] w (eG w (.tuple #[vZ ⟨0,F,T,I,L,k,N⟩,.bool (cZ ⟨0,F,T,I,L,k,N⟩)])):=by
 have HP:=Hq (show cZ ⟨0,F,T,I,L,k,N⟩=false by simp only[Bool.and_eq_true] at hr;obtain⟨⟨h1,h2⟩,h3⟩:=hr;simp[cZ,h1,h2,h3,Ne.symm hI]);have HO:=Hq (λw1=>MV F T k N true w1 hr);have HM:=Hq (λw1=>yh F T k N w1);open aql in exact Gu
theorem yc (F:Int) (T:Int) (L:Int) (k:ByteArray) (N:Int) (w:World) (hr:(mh F T&&keyOk k.data.toList&&fF N)=true) (hL:¬0=L):Calls prog 234 #[nK ⟨0,F,T,0,L,k,N⟩] w (eG w (.tuple #[vZ ⟨0,F,T,0,L,k,N⟩,.bool (cZ ⟨0,F,T,0,L,k,N⟩)])):=by
 have HP:=Hq (show cZ ⟨0,F,T,0,L,k,N⟩=false by simp only[Bool.and_eq_true] at hr;obtain⟨⟨h1,h2⟩,h3⟩:=hr;simp[cZ,h1,h2,h3,Ne.symm hL]);have HO:=Hq (λw1=>MV F T k N true w1 hr);have HM:=Hq (λw1=>yh F T k N w1);open aqk in exact Gu
theorem yg (F:Int) (T:Int) (k:ByteArray) (N:Int) (w:World) (hr:(mh F T&&keyOk k.data.toList&&fF N)=true):Calls prog 234 #[nK ⟨0,F,T,0,0,k,N⟩] w (eG w (.tuple #[vZ ⟨0,F,T,0,0,k,N⟩,.bool (cZ ⟨0,F,T,0,0,k,N⟩)])):=by
 have HP:=Hq (show cZ ⟨0,F,T,0,0,k,N⟩=true by simp only[Bool.and_eq_true] at hr;obtain⟨⟨h1,h2⟩,h3⟩:=hr;simp[cZ,h1,h2,h3]);have HO:=Hq (λw1=>MV F T k N true w1 hr);have HM:=Hq (λw1=>yh F T k N w1);open aqj in exact Gu
theorem Bv (hr:(mh F T&&fF I&&decide (1<=L)&&decide (L<=I)&&keyOk k.data.toList&&fF N)=false):Calls prog 234 #[nK ⟨1,F,T,I,L,k,N⟩] w (eG w (.tuple #[vZ ⟨1,F,T,I,L,k,N⟩,.bool (cZ ⟨1,F,T,I,L,k,N⟩)])):=by
 have HP:=Hq (show cZ ⟨1,F,T,I,L,k,N⟩=false by simp only[Bool.and_eq_false_iff,decide_eq_false_iff_not] at hr;rcases hr with((((h|h)|h)|h)|h)|h<;>simp[cZ,h]<;>omega);have HO:=Hq (λw1=>aiU F T I L k N false w1 hr);open aqi in exact Gu
theorem zJ (hr:(mh F T&&fF I&&decide (1<=L)&&decide (L<=I)&&keyOk k.data.toList&&fF N)=true):Calls prog 234 #[nK ⟨1,F,T,I,L,k,N⟩] w (eG w (.tuple #[vZ ⟨1,F,T,I,L,k,N⟩,.bool (cZ ⟨1,F,T,I,L,k,N⟩)])):=by
 have HP:=Hq (show cZ ⟨1,F,T,I,L,k,N⟩=true by simp only[Bool.and_eq_true,decide_eq_true_iff] at hr;obtain⟨⟨⟨⟨⟨h1,h2⟩,h3⟩,h4⟩,h5⟩,h6⟩:=hr;simp[cZ,h1,h2,h3,h4,h5,h6]);have HO:=Hq (λw1=>aiU F T I L k N true w1 hr);have HM:=Hq (λw1=>Xr F T I L k N w1);open aqh in exact Gu
theorem Bu (hr:(mh F T&&fF I)=false):Calls prog 234 #[nK ⟨2,F,T,I,L,k,N⟩] w (eG w (.tuple #[vZ ⟨2,F,T,I,L,k,N⟩,.bool (cZ ⟨2,F,T,I,L,k,N⟩)])):=by
 have HP:=Hq (show cZ ⟨2,F,T,I,L,k,N⟩=false by simp only[Bool.and_eq_false_iff] at hr;rcases hr with h|h<;>simp[cZ,h]);have HO:=Hq (λw1=>Ol F T I false w1 hr);open aqg in exact Gu
theorem zH (hr:(mh F T&&fF I)=true) (hL:¬0=L):Calls prog 234 #[nK ⟨2,F,T,I,L,k,N⟩] w (eG w (.tuple #[vZ ⟨2,F,T,I,L,k,N⟩,.bool (cZ ⟨2,F,T,I,L,k,N⟩)])):=by
 have HP:=Hq (show cZ ⟨2,F,T,I,L,k,N⟩=false by simp only[Bool.and_eq_true] at hr;obtain⟨h1,h2⟩:=hr;simp[cZ,h1,h2,Ne.symm hL]);have HO:=Hq (λw1=>Ol F T I true w1 hr);have HM:=Hq (λw1=>wB F T I w1);open aqf in exact Gu
theorem zF (F:Int) (T:Int) (I:Int) (k:ByteArray) (N:Int) (w:World) (hr:(mh F T&&fF I)=true) (hk:¬k.size=0):Calls prog 234 #[nK ⟨2,F,T,I,0,k,N⟩] w (eG w (.tuple #[vZ ⟨2,F,T,I,0,k,N⟩,.bool (cZ ⟨2,F,T,I,0,k,N⟩)])):=by
 have HP:=Hq (show cZ ⟨2,F,T,I,0,k,N⟩=false by simp only[Bool.and_eq_true] at hr;obtain⟨h1,h2⟩:=hr;simp[cZ,h1,h2,hk]);have HO:=Hq (λw1=>Ol F T I true w1 hr);have HM:=Hq (λw1=>wB F T I w1);clear hr;have hne:¬k.toList=[]:=by rw [ByteArray.toList_eq];intro h;have:=bq k;rw [h] at this;simp at this;omega
 have hne2:¬[]=k.toList:=λh=>hne h.symm
 clear hk;go_in
 go_upto_region 11 with fail;refine wp_at (λV hV=>?_);have hblk:V.heap[w.heap.size]?=some (.cells (bV 2 F T I 0 k N) 98 (0,0)):=by rw [hV,Below.heap_alloc _ _ _ Aac];exact heap_alloc_new w _
 open aAe in exact Yk5
theorem Df (F:Int) (T:Int) (I:Int) (N:Int) (w:World) (hr:(mh F T&&fF I)=true) (hN:¬0=N):Calls prog 234 #[nK ⟨2,F,T,I,0,ByteArray.empty,N⟩] w (eG w (.tuple #[vZ ⟨2,F,T,I,0,ByteArray.empty,N⟩,.bool (cZ ⟨2,F,T,I,0,ByteArray.empty,N⟩)])):=by
 have HP:=Hq (show cZ ⟨2,F,T,I,0,ByteArray.empty,N⟩=false by simp only[Bool.and_eq_true] at hr;obtain⟨h1,h2⟩:=hr;simp[cZ,h1,h2,Ne.symm hN]);have HO:=Hq (λw1=>Ol F T I true w1 hr);have HM:=Hq (λw1=>wB F T I w1);open aqe in exact Gu
theorem zI (F:Int) (T:Int) (I:Int) (w:World) (hr:(mh F T&&fF I)=true):Calls prog 234 #[nK ⟨2,F,T,I,0,ByteArray.empty,0⟩] w (eG w (.tuple #[vZ ⟨2,F,T,I,0,ByteArray.empty,0⟩,.bool (cZ ⟨2,F,T,I,0,ByteArray.empty,0⟩)])):=by
 have HP:=Hq (show cZ ⟨2,F,T,I,0,ByteArray.empty,0⟩=true by simp only[Bool.and_eq_true] at hr;obtain⟨h1,h2⟩:=hr;simp[cZ,h1,h2]);have HO:=Hq (λw1=>Ol F T I true w1 hr);have HM:=Hq (λw1=>wB F T I w1);open aqd in exact Gu
theorem EU (K F T I L:Int) (k:ByteArray) (N:Int) (w:World) (k0:¬K=0) (k1:¬K=1) (k2:¬K=2):Calls prog 234 #[nK ⟨K,F,T,I,L,k,N⟩] w (eG w (.tuple #[vZ ⟨K,F,T,I,L,k,N⟩,.bool (cZ ⟨K,F,T,I,L,k,N⟩)])):=by
 have HP:=Hq (show cZ ⟨K,F,T,I,L,k,N⟩=false by simp[cZ,k0,k1,k2]);have HV:=Hq (show vZ ⟨K,F,T,I,L,k,N⟩= .nilIface by simp[vZ,k0,k1,k2]);go_in
 go_wp2_with fail;exact bodyPost_ret (v:= .tuple #[.nilIface,.bool false]) (by simp[results,results234,go_sem]) rfl ⟨by rw [ah HP,ah HV],((Below.refl _ _).alloc (Nat.le_refl _) _).alloc Aac _⟩
theorem Xq (m:Mg) (w:World):Calls prog 234 #[nK m] w (eG w (.tuple #[vZ m,.bool (cZ m)])):=by
 obtain⟨K,F,T,I,L,k,N⟩:=m;by_cases k0:K=0
 .subst k0;cases hr:(mh F T&&keyOk k.data.toList&&fF N)
  .exact zL F T I L k N w hr
  by_cases hI:0=I
  .subst hI;by_cases hL:0=L
   .subst hL;exact yg F T k N w hr
   .exact yc F T L k N w hr hL
  .exact zK F T I L k N w hr hI
 by_cases k1:K=1
 .subst k1;cases hr:(mh F T&&fF I&&decide (1<=L)&&decide (L<=I)&&keyOk k.data.toList&&fF N)
  .exact Bv F T I L k N w hr
  .exact zJ F T I L k N w hr
 by_cases k2:K=2
 .subst k2;cases hr:(mh F T&&fF I)
  .exact Bu F T I L k N w hr
  by_cases hL:0=L
  .subst hL;by_cases hk:k.size=0
   .obtain rfl:=eq_empty k hk;by_cases hN:0=N
    .subst hN;exact zI F T I w hr
    .exact Df F T I N w hr hN
   .exact zF F T I k N w hr hk
  .exact zH F T I L k N w hr hL
 exact EU K F T I L k N w k0 k1 k2
theorem Jw (m:Mg) (w:World):Calls prog 208 #[nK m] w (eG w (.bool (cZ m))):=by
 have HM:=Hq (λw1=>Xq m w1);generalize cZ m=r at *;generalize vZ m=v at *;obtain⟨K,F,T,I,L,k,N⟩:=m;go_in
 go_wp2_with fail;refine(HM _).mono ?_;rintro e w1 ⟨rfl,hb1⟩;go_wp2
 go_ret;exact⟨rfl,(ay w _).trans (hb1.mono Aac)⟩
def vB (o:Option (Nat×Nat)) (i:Int):Value:=
 match o with
 |none=> .tuple #[.int .i64 0,.int .i64 (-1)]
 |some (n,c)=> .tuple #[.int .i64 n,.int .i64 (i+c)]
theorem get_some {a b:Int} (hG:G=some (n,c)) (ha:a=n) (hb:b=i+c):Ending.returned (.tuple #[.int .i64 a,.int .i64 b])= .returned (vB G i):=by
 subst hG;subst ha;subst hb;rfl
theorem get_none (hG:G=none):Ending.returned (.tuple #[.int .i64 0,.int .i64 (-1)])= .returned (vB G i):=by
 subst hG;rfl
theorem zl (s:ByteArray) (i j k:Nat) (hk:k=i+j) (hlt:k < s.size):(s.extract i (k+1)).toList=(s.data.toList.drop i).take j++[s[k]]:=by
 subst hk;rw [Lib.extract_toList];have e:i+j+1 - i=j+1:=Aaa
 rw [e,List.take_succ_eq_append_getElem (by simp;show j < s.size - i;omega)];simp;rfl
theorem ac4 {j v:Nat} (h:qj j v):v=128 ^ j:=by
 unfold qj at h;rcases h with⟨rfl,rfl⟩|⟨rfl,rfl⟩|⟨rfl,rfl⟩|⟨rfl,rfl⟩|⟨rfl,rfl⟩|⟨rfl,rfl⟩<;>rfl
def yB (s:ByteArray) (i j m:Nat):Prop:=((s.data.toList.drop i).take j).length=j/\(∀c∈(s.data.toList.drop i).take j,128<=c.toNat)/\m=Mth.val ((s.data.toList.drop i).take j)
theorem acC (s:ByteArray) (i:Nat):yB s i 0 0:=⟨Aac,Aac,by simp[Mth.val]⟩
theorem wG (s:ByteArray) (i j k:Nat) (hk:k=i+j) (hlt:k < s.size):(s.data.toList.drop i).take (j+1)=(s.data.toList.drop i).take j++[s[k]]:=by
 have h:=zl s i j k hk hlt;rw [Lib.extract_toList] at h;have e:k+1 - i=j+1:=Aaa
 rw [e] at h;exact h
theorem QW (s:ByteArray) (i j k m v:Nat) (hk:k=i+j) (hlt:k < s.size) (hu:qj j v) (h:yB s i j m):Mth.val ((s.data.toList.drop i).take (j+1))=m+s[k].toNat % 128*v:=by
 rw [wG s i j k hk hlt,Mth.val_snoc,h.1,<-h.2.2,ac4 hu]
theorem XJ (s:ByteArray) (i j k m v:Nat) (hk:k=i+j) (hlt:k < s.size) (hu:qj j v) (hb:128<=s[k].toNat) (h:yB s i j m):yB s i (j+1) (m+s[k].toNat % 128*v):=by
 refine⟨?_,?_,(QW s i j k m v hk hlt hu h).symm⟩
 .rw [wG s i j k hk hlt,List.length_append,h.1];rfl
 .intro c hc;rw [wG s i j k hk hlt,List.mem_append] at hc;rcases hc with hc|hc
  .exact h.2.1 c hc
  .simp at hc;subst hc;exact hb
theorem aec (s:ByteArray) (i j k m v:Nat) (hk:k=i+j) (hlt:k < s.size) (hu:qj j v) (hj:j < 5) (hb:¬128<=s[k].toNat) (h:yB s i j m) (hz:s[k].toNat≠0\/j=0):
 Mth.put (m+s[k].toNat*v)=(s.extract i (k+1)).toList:=by
 have e:m+s[k].toNat*v=Mth.val ((s.data.toList.drop i).take j++[s[k]]):=by
  exact ait
 rw [e,zl s i j k hk hlt]
 exact Mth.putF_val _ _ Aaa 5 (by rw [h.1];omega) h.2.1 (by
  rcases hz with hz|hz
  .exact .inl hz
  .subst hz;exact .inr Aac)
theorem aj5 (s:ByteArray) (i j k m v:Nat) (hk:k=i+j) (hlt:k < s.size) (hu:qj j v) (hj:j < 5) (h:yB s i j m) (hz:s[k].toNat=0) (hj0:0 < j):
 Mth.put (m+s[k].toNat*v)≠(s.extract i (k+1)).toList:=by
 have e:m+s[k].toNat*v=Mth.val ((s.data.toList.drop i).take j++[s[k]]):=by
  exact ait
 rw [e,zl s i j k hk hlt];exact Mth.putF_nought _ _ hz (by intro hn;have:=h.1;rw [hn] at this;simp at this;omega) 5 (by rw [h.1];omega)
theorem FE (s:ByteArray) (i:Int) (w:World) (h:i < 0):Calls prog 102 #[.string s,.int .i64 i] w λe w'=>e= .returned (vB none i)/\w=w':=by
 have h0:decide (0<=i)=false:=Aag
 go_in
 go_wp2
 refine wp_loop_rounds 1 ?_;rw [rounds_succ];go_wp2
 go_ret2
 exact⟨rfl,rfl⟩
theorem Wy (h:a=b):(a == b)=true:=by simp[h]
theorem JB (h:a≠b):(a == b)=false:=by simp[h]
theorem Ue (s:ByteArray) (i:Nat) (w:World) (hs:s.size<=maxLen):Calls prog 102 #[.string s,.int .i64 i] w (eG w (vB (Mth.get s.data.toList i) i)):=by
 unfold maxLen at hs;go_in
 go_wp2
 go_loop [6,7,8] (λn u a=>∃j m v k:Nat,qj j v/\m < v/\n= .int .i64 m/\u= .int .i64 v/\a= .int .i64 k/\k=i+j/\yB s i j m/\Mth.getF (5 - j) (s.data.toList.drop k) m v j=Mth.get s.data.toList i) (λ_ _ a=>s.size - (intOf a).toNat)
 case atStart=>exact⟨0,0,1,i,.inl ⟨rfl,rfl⟩,Aaa,rfl,rfl,rfl,rfl,acC s i,rfl⟩
 case round=>
  obtain⟨j,m,v,k,hu,hm,rfl,rfl,rfl,hk,hread,hget⟩:=hrel;have HG:=Hq hget;have HK:=Hq hk;have Dr:=Hq hread;have aDq:(k:Int) - (i:Int)<=j:=Aaa
  have aDr:(j:Int)<=(k:Int) - (i:Int):=Aaa
  clear hget hk hread;obtain⟨hv1,hv2,hu2,hv5⟩:=VP hu;have HU0:=Hq hu;by_cases hlt:k < s.size
  .by_cases hj:j < 5
   .open arh in exact afF
   .obtain⟨rfl,ayd⟩:=hv5 hj;have HR:=Hq (Mth.get_full _ _ _ _ HG);exact aix
  .have HR:=Hq (Mth.get_end s k _ m _ _ hlt HG);exact aix
def iq (s:ByteArray) (i:Int):Option (Nat×Nat):=if i < 0 then none else Mth.get s.data.toList i.toNat
theorem Bd (s:ByteArray) (i:Int) (h:i < 0):iq s i=none:=by simp[iq,h]
theorem vW (s:ByteArray) (n:Nat):iq s n=Mth.get s.data.toList n:=by
 unfold iq;rw [if_neg Aaa];rfl
theorem acn (s:ByteArray) (i:Int) (w:World) (hs:s.size<=maxLen):Calls prog 251 #[.string s,.int .i64 i] w λe w'=>e= .returned (qZ (iq s i) i)/\w=w':=by
 by_cases h:i < 0
 .rw [Bd s i h];exact Xx s i w h
 .obtain⟨n,rfl⟩:=Int.eq_ofNat_of_zero_le (show 0<=i by omega);rw [vW];exact ayN s n w hs
theorem Cq (s:ByteArray) (i:Int) (w:World) (hs:s.size<=maxLen):Calls prog 102 #[.string s,.int .i64 i] w (eG w (vB (iq s i) i)):=by
 by_cases h:i < 0
 .rw [Bd s i h];exact(FE s i w h).mono λe w' ⟨he,hw⟩=>⟨he,hw▸Below.refl _ _⟩
 .obtain⟨n,rfl⟩:=Int.eq_ofNat_of_zero_le (show 0<=i by omega);rw [vW];exact Ue s n w hs
theorem O9 (s:ByteArray) (i:Int) (w:World) (hs:s.size<=maxLen) (hH:Handle w):Calls prog 254 #[.string s,.int .i64 i] w (eG w (vB (iq s i) i)):=by
 have HN:=Hq (λw1=>acn s i w1 hs);have HH:=Hq hH;clear hH;cases hG:iq s i with
 |none=>
  rw [hG] at HN;go_in
  go_wp2_with (first|(go_at_call 251;refine(HN _).mono ?_;rintro e w' ⟨rfl,rfl⟩;simp only[qZ])|(go_at_call 223;refine(Pz _ _ HH).mono ?_;rintro e w' ⟨rfl,hbel⟩))
  go_ret2
  exact⟨rfl,hbel⟩
 |some p=>
  obtain⟨n,c⟩:=p;rw [hG] at HN;go_in
  go_wp2_with (first|(go_at_call 251;refine(HN _).mono ?_;rintro e w' ⟨rfl,rfl⟩;simp only[qZ])|(go_at_call 223;refine(Py _).mono ?_;rintro e w' ⟨rfl,hbel⟩))
  go_ret2
  exact⟨rfl,hbel⟩
def DC (o:Option (ByteArray×Nat)):Value:=
 match o with
 |none=> .tuple #[.string ByteArray.empty,.int .i64 (-1)]
 |some (t,b)=> .tuple #[.string t,.int .i64 b]
def textOf (s:ByteArray) (i:Nat) (o:Option (Nat×Nat)):Option (ByteArray×Nat):=
 match o with
 |none=>none
 |some (n,c)=>if 1000 < n\/s.size - (i+c) < n then none else some (s.extract (i+c) (i+c+n),i+c+n)
theorem tL (h:iq s i=some (n,c)):∃k:Nat,i=k/\Mth.get s.data.toList k=some (n,c)/\n<=4000000000/\k+c<=s.size:=by
 by_cases h0:i < 0
 .rw [Bd s i h0] at h;cases h
 .obtain⟨k,rfl⟩:=Int.eq_ofNat_of_zero_le (show 0<=i by omega);have h':iq s (k:Int)=some (n,c):=h;rw [vW] at h';have hb:=Mth.get_bound _ _ _ _ h';rw [bq] at hb;exact⟨k,rfl,h',hb.1,hb.2.2.2⟩
theorem QB (s:ByteArray) (i:Int) (w:World) (hs:s.size<=maxLen):Calls prog 53 #[.string s,.int .i64 i] w (eG w (DC (textOf s i.toNat (iq s i)))):=by
 have HS:=Hq (λw1=>Cq s i w1 hs);unfold maxLen at hs;cases hG:iq s i with
 |none=>
  rw [hG] at HS;open auE in exact Z4
 |some p=>
  obtain⟨n,c⟩:=p;obtain⟨k,rfl,_,hn,hk⟩:=tL hG;rw [hG] at HS;by_cases hbad:1000 < n\/s.size - (k+c) < n
  .have HR:Hid (textOf s k (some (n,c))=none):=by unfold textOf;exact if_pos hbad
   rw [Int.toNat_natCast];by_cases h1:1000 < n
   .exact ahn
   .have h2:(s.size:Int) - ((k:Int)+(c:Int)) < (n:Int):=Aaa
    exact ahn
  .open atf in exact agh
def MR (o:Option (Nat×Nat)) (i:Int):Value:=
 match o with
 |none=> .iface 272 (.agg #[.iface 272 (.agg #[.iface 274 (.agg #[.int .i64 i])])])
 |some _=> .iface 272 (.agg #[.iface 274 (.agg #[.int .i64 i])])
def sK (t:Option (ByteArray×Nat)) (o:Option (Nat×Nat)) (i:Int):Value:=
 match t with
 |none=> .tuple #[.string ByteArray.empty,.int .i64 0,MR o i]
 |some (x,b)=> .tuple #[.string x,.int .i64 b,.nilIface]
theorem ak1 (s:ByteArray) (i:Int) (w:World) (hs:s.size<=maxLen):Calls prog 222 #[.string s,.int .i64 i] w (eG w (sK (textOf s i.toNat (iq s i)) (iq s i) i)):=by
 have HS:=Hq (λw1=>acn s i w1 hs);unfold maxLen at hs;cases hG:iq s i with
 |none=>
  rw [hG] at HS;go_in
  go_wp2_with (go_at_call 251;refine(HS _).mono ?_;rintro e w1 ⟨rfl,rfl⟩;simp only[qZ])
  go_ret3
  exact⟨rfl,Below.refl _ _⟩
 |some p=>
  obtain⟨n,c⟩:=p;obtain⟨k,rfl,_,hn,hk⟩:=tL hG;rw [hG] at HS;by_cases hbad:1000 < n\/s.size - (k+c) < n
  .have HR:Hid (textOf s k (some (n,c))=none):=by unfold textOf;exact if_pos hbad
   rw [Int.toNat_natCast];by_cases h1:1000 < n
   .exact ag5
   .have h2:(s.size:Int) - ((k:Int)+(c:Int)) < (n:Int):=Aaa
    exact ag5
  .open atg in exact agh
theorem Pb (s:ByteArray) (i:Int) (w:World) (hs:s.size<=maxLen) (hH:Handle w):Calls prog 198 #[.string s,.int .i64 i] w (eG w (DC (textOf s i.toNat (iq s i)))):=by
 have HN:=Hq (λw1=>ak1 s i w1 hs);have HH:=Hq hH;clear hH;cases hT:textOf s i.toNat (iq s i) with
 |none=>
  rw [hT] at HN;cases hG:iq s i with
  |none=>
   rw [hG] at HN;go_in
   go_wp2_with (first|(go_at_call 222;refine(HN _).mono ?_;rintro e w1 ⟨rfl,hb1⟩;simp only[sK,MR])|(go_at_call 223;refine(abT _ _ (HH.below hb1)).mono ?_;rintro e w2 ⟨rfl,hb2⟩))
   exact aaA
  |some p=>
   rw [hG] at HN;go_in
   go_wp2_with (first|(go_at_call 222;refine(HN _).mono ?_;rintro e w1 ⟨rfl,hb1⟩;simp only[sK,MR])|(go_at_call 223;refine(Pz _ _ (HH.below hb1)).mono ?_;rintro e w2 ⟨rfl,hb2⟩))
   exact aaA
 |some p=>
  obtain⟨x,b⟩:=p;rw [hT] at HN;go_in
  go_wp2_with (first|(go_at_call 222;refine(HN _).mono ?_;rintro e w1 ⟨rfl,hb1⟩;simp only[sK])|(go_at_call 223;refine(Py _).mono ?_;rintro e w2 ⟨rfl,hb2⟩))
  exact aaA
def akQ (o:Option (Nat×Nat)):Int:=match o with|none=>0|some (n,_)=>n
def aeQ (o:Option (Nat×Nat)) (i:Int):Int:=match o with|none=> -1|some (_,c)=>i+c
theorem Eu (o:Option (Nat×Nat)) (i:Int):vB o i= .tuple #[.int .i64 (akQ o),.int .i64 (aeQ o i)]:=by cases o<;>rfl
def Yp (o:Option (ByteArray×Nat)):ByteArray:=match o with|none=>ByteArray.empty|some (t,_)=>t
def QU (o:Option (ByteArray×Nat)):Int:=match o with|none=> -1|some (_,b)=>b
theorem Cu (o:Option (ByteArray×Nat)):DC o= .tuple #[.string (Yp o),.int .i64 (QU o)]:=by cases o<;>rfl
theorem Fj (h:iq s i=some (n,c)):∃k:Nat,i=k/\k+c<=s.size/\0 < c/\n<=4000000000/\(lU n).toList=(s.extract k (k+c)).toList:=by
 obtain⟨k,rfl,hg,hn,hk⟩:=tL h;have hb:=Mth.get_bound _ _ _ _ hg;refine⟨k,rfl,hk,hb.2.1,hn,?_⟩;unfold lU;rw [if_pos Aaa,Int.toNat_natCast,ByteArray.toList_mk,Lib.extract_toList,Mth.get_was_put _ _ _ _ hg];congr 1;omega
theorem XK {s:ByteArray} {i:Int} {t:ByteArray} {e:Nat} (h:textOf s i.toNat (iq s i)=some (t,e)):∃k:Nat,i=k/\k < e/\e<=s.size/\t.size<=1000/\(nW t).toList=(s.extract k e).toList:=by
 cases hG:iq s i with
 |none=>rw [hG] at h;simp[textOf] at h
 |some p=>
  obtain⟨n,c⟩:=p;obtain⟨k,rfl,hk,hc,hn,hput⟩:=Fj hG;rw [hG,Int.toNat_natCast] at h;unfold textOf at h;simp only at h;split at h
  .cases h
  .rename_i hbad
   simp only[Option.some.injEq,Prod.mk.injEq] at h;obtain⟨rfl,rfl⟩:=h;have hsz:(s.extract (k+c) (k+c+n)).size=n:=by rw [ByteArray.size_extract];omega
   refine⟨k,rfl,Aaa,Aaa,Aaa,?_⟩;unfold nW;rw [if_pos Aaa];unfold qM;rw [ByteArray.toList_mk,hsz]
   have e1:Mth.put n=(s.extract k (k+c)).toList:=by
    rw [<-hput];unfold lU;rw [if_pos Aaa,Int.toNat_natCast,ByteArray.toList_mk]
   rw [e1,Lib.extract_toList,Lib.extract_data,Lib.extract_toList];have h1:k+c - k=c:=Aaa
   have h2:k+c+n - (k+c)=n:=Aaa
   have h3:k+c+n - k=c+n:=Aaa
   rw [h1,h2,h3,<-List.drop_drop,List.take_add]
def uo (s:ByteArray) (i:Int):Int:=akQ (iq s i)
def jS (s:ByteArray) (i:Int):Int:=aeQ (iq s i) i
def jU (s:ByteArray) (i:Int):ByteArray:=Yp (textOf s i.toNat (iq s i))
def je (s:ByteArray) (i:Int):Int:=QU (textOf s i.toNat (iq s i))
theorem kZ {s:ByteArray} {i:Int} (h:0<=jS s i):0<=i/\i<=jS s i/\jS s i<=s.size/\(lU (uo s i)).data.toList=(s.data.toList.take (jS s i).toNat).drop i.toNat:=by
 unfold jS uo at *;cases hG:iq s i with
 |none=>rw [hG] at h;simp[aeQ] at h
 |some p=>
  obtain⟨n,c⟩:=p;obtain⟨k,rfl,hk,hc,hn,hput⟩:=Fj hG;simp only[aeQ,akQ];refine⟨Aaa,Aaa,Aaa,?_⟩;rw [<-ByteArray.toList_eq,hput,Lib.extract_toList,List.drop_take];simp only[Int.toNat_natCast];rfl
theorem iQ {s:ByteArray} {i:Int} (h:0<=je s i):0<=i/\i<=je s i/\je s i<=s.size/\(jU s i).size<=1000/\(nW (jU s i)).data.toList=(s.data.toList.take (je s i).toNat).drop i.toNat:=by
 unfold je jU at *;cases hG:textOf s i.toNat (iq s i) with
 |none=>rw [hG] at h;simp[QU] at h
 |some p=>
  obtain⟨t,e⟩:=p;obtain⟨k,rfl,hk,hc,hn,hput⟩:=XK hG;simp only[QU,Yp];refine⟨Aaa,Aaa,Aaa,hn,?_⟩;rw [<-ByteArray.toList_eq,hput,Lib.extract_toList,List.drop_take];simp only[Int.toNat_natCast]
def wZ (s:ByteArray):Int:=jS s (je s (jS s (jS s (jS s (jS s 1)))))
def cand (s:ByteArray):Mg:=
 ⟨(s.data.toList.headD 0).toNat,uo s 1,uo s (jS s 1),uo s (jS s (jS s 1)),uo s (jS s (jS s (jS s 1))),jU s (jS s (jS s (jS s (jS s 1)))),uo s (je s (jS s (jS s (jS s (jS s 1)))))⟩
theorem mY (l:List UInt8) (i j:Nat) (h:i<=j):l.take i++(l.take j).drop i=l.take j:=by
 have h2:(l.take j).take i=l.take i:=by rw [List.take_take,Nat.min_eq_left h]
 rw [<-h2,List.take_append_drop]
theorem Em (hs:0 < s.size) (h:0<=wZ s):wZ s<=s.size/\(zM (cand s)).data.toList=s.data.toList.take (wZ s).toNat:=by
 unfold wZ at h;obtain⟨g5,l6,e6,q6⟩:=kZ h;obtain⟨g4,l5,e5,_,q5⟩:=iQ g5;obtain⟨g3,l4,e4,q4⟩:=kZ g4;obtain⟨g2,l3,e3,q3⟩:=kZ g3;obtain⟨g1,l2,e2,q2⟩:=kZ g2;obtain⟨g0,l1,e1,q1⟩:=kZ g1;refine⟨e6,?_⟩;unfold zM cand wZ;simp only[ByteArray.data_append,Array.toList_append];rw [q1,q2,q3,q4,q5,q6]
 have q0:(kb ((s.data.toList.headD 0).toNat:Int)).data.toList=s.data.toList.take (1:Int).toNat:=by
  exact ah5
 rw [q0,mY _ _ _ Aaa,mY _ _ _ Aaa,mY _ _ _ Aaa,mY _ _ _ Aaa,mY _ _ _ Aaa,mY _ _ _ Aaa]
def mg0:Mg:=⟨0,0,0,0,0,ByteArray.empty,0⟩
def jQ (s:ByteArray):Bool:=decide (0 < s.size)&&decide (wZ s=s.size)&&cZ (cand s)
def mq (s:ByteArray):Mg:=if jQ s=true then cand s else mg0
theorem Et (hs:0 < s.size):jQ s=(decide (0<=wZ s)&&decide (jC (cand s)=s)):=by
 rw [Bool.eq_iff_iff];unfold jQ;simp only[Bool.and_eq_true,decide_eq_true_iff];constructor
 .rintro⟨⟨_,h1⟩,h2⟩;have h0:0<=wZ s:=Aaa
  refine⟨h0,?_⟩;rw [yA h2];apply ByteArray.ext
  apply Array.ext'
  rw [(Em hs h0).2,h1,Int.toNat_natCast,List.take_of_length_le (by rw [bq];exact Nat.le_refl _)]
 .rintro⟨h0,h1⟩;obtain⟨hl,hb⟩:=Em hs h0;cases hm:cZ (cand s) with
  |false=>
   rw [BD hm] at h1;rw [<-h1] at hs;exact absurd hs Aae
  |true=>
   rw [yA hm] at h1;refine⟨⟨hs,?_⟩,rfl⟩;rw [h1] at hb;have:=congrArg List.length hb;rw [List.length_take,bq] at this;omega
def JI (s:ByteArray):Int:=jS s (je s (jS s 1))
def Aq (s:ByteArray):ByteArray:=jU s (JI s)
def LH (s:ByteArray):Int:=je s (JI s)
def opC (s:ByteArray):gK:=⟨(s.data.toList.headD 0).toNat,uo s 1,jU s (jS s 1),uo s (je s (jS s 1)),mq (Aq s)⟩
def qD (s:ByteArray):Bool:=decide ((Aq s).size=0)||jQ (Aq s)
theorem aeM:cZ mg0=false:=Aae
theorem JW (h:s.size=0):s=ByteArray.empty:=eq_empty s h
theorem Jr {b:ByteArray} (h:b.size=0):mq b=mg0/\jQ b=false:=by
 have ho:jQ b=false:=by unfold jQ;rw [decide_eq_false Aaa];rfl
 refine⟨?_,ho⟩;unfold mq;rw [ho,if_neg Aac]
theorem Wz (h:qD s=true):jC (mq (Aq s))=Aq s:=by
 by_cases h0:(Aq s).size=0
 .rw [(Jr h0).1,BD aeM,JW h0]
 .unfold qD at h;rw [decide_eq_false h0,Bool.false_or] at h;have h2:=Et (s:=Aq s) Aaa;rw [h] at h2;unfold mq;rw [if_pos h];have h3:=h2.symm;simp only[Bool.and_eq_true,decide_eq_true_iff] at h3;exact h3.2
theorem JF (hs:0 < s.size) (h:0<=LH s) (hb:qD s=true):LH s<=s.size/\(zT (opC s)).data.toList=s.data.toList.take (LH s).toNat:=by
 have hq:=Wz hb;unfold LH Aq at *;obtain⟨g3,l4,e4,_,q4⟩:=iQ h;unfold JI at g3 l4 e4 q4 hq h ⊢;obtain⟨g2,l3,e3,q3⟩:=kZ g3;obtain⟨g1,l2,e2,_,q2⟩:=iQ g2;obtain⟨g0,l1,e1,q1⟩:=kZ g1;refine⟨e4,?_⟩;unfold zT opC Aq JI;simp only[ByteArray.data_append,Array.toList_append];rw [hq,q1,q2,q3,q4]
 have q0:(kb ((s.data.toList.headD 0).toNat:Int)).data.toList=s.data.toList.take (1:Int).toNat:=by
  exact ah5
 rw [q0,mY _ _ _ Aaa,mY _ _ _ Aaa,mY _ _ _ Aaa,mY _ _ _ Aaa]
def op0:gK:=⟨0,0,ByteArray.empty,0,mg0⟩
def kE (s:ByteArray):Bool:=decide (0 < s.size)&&decide (LH s=s.size)&&qD s&&cu (opC s)
def getOp (s:ByteArray):gK:=if kE s=true then opC s else op0
theorem WV (hs:0 < s.size):kE s=(decide (0<=LH s)&&qD s&&decide (vJ (opC s)=s)):=by
 rw [Bool.eq_iff_iff];unfold kE;simp only[Bool.and_eq_true,decide_eq_true_iff];constructor
 .rintro⟨⟨⟨_,h1⟩,hb⟩,h2⟩;have h0:0<=LH s:=Aaa
  refine⟨⟨h0,hb⟩,?_⟩;rw [BF h2];apply ByteArray.ext
  apply Array.ext'
  rw [(JF hs h0 hb).2,h1,Int.toNat_natCast,List.take_of_length_le (by rw [bq];exact Nat.le_refl _)]
 .rintro⟨⟨h0,hb⟩,h1⟩;obtain⟨hl,hq⟩:=JF hs h0 hb;cases hm:cu (opC s) with
  |false=>
   rw [Qd hm] at h1;rw [<-h1] at hs;exact absurd hs Aae
  |true=>
   rw [BF hm] at h1;refine⟨⟨⟨hs,?_⟩,hb⟩,rfl⟩;rw [h1] at hq;have:=congrArg List.length hq;rw [List.length_take,bq] at this;omega
theorem rZ (s:ByteArray) (i:Int):(jU s i).size<=1000:=by
 exact ahr
theorem acp (s:ByteArray):(mq s).k.size<=1000:=by
 unfold mq;split
 .exact rZ _ _
 .decide
def gI (s:ByteArray):Nat->Int
 |0=>1
 |j+1=>jS s (gI s j)
def numsL (s:ByteArray) (j:Nat):List Value:=(List.range j).map λi=> .int .i64 (uo s (gI s i))
theorem TM (s:ByteArray) (j:Nat):numsL s (j+1)=numsL s j++[.int .i64 (uo s (gI s j))]:=by unfold numsL;rw [List.range_succ,List.map_append];rfl
theorem abN:(prog.info? 3).map (λi=>(i.zero,i.size,i.bytes))=some (some (.int .i64 0),1,8):=Aab
theorem own_below {w w':World} {base size n:Nat} {e:TypeId} {v:Value} {xs:List Value} (h:w.ownsRow base e size v n xs) (hb:aI w w'):w'.ownsRow base e size v n xs:=by
 refine h.kept (row:=none) ⟨hb.os,hb.tape,hb.output,hb.size,λk hk _=>hb.block k hk⟩ ?_;cases hv:v.ownBlock with
 |none=>exact .inl rfl
 |some k=>right;simp
theorem Mw (s:ByteArray) (i:Int) (hs:s.size<=maxLen) (w:World):Calls prog 102 #[.string s,.int .i64 i] w (eG w (.tuple #[.int .i64 (uo s i),.int .i64 (jS s i)])):=by
 have h:=Cq s i w hs;rw [Eu] at h;exact h
theorem MC (s:ByteArray) (i:Int) (hs:s.size<=maxLen) (w:World):Calls prog 53 #[.string s,.int .i64 i] w (eG w (.tuple #[.string (jU s i),.int .i64 (je s i)])):=by
 have h:=QB s i w hs;rw [Cu] at h;exact h
theorem aeI (s:ByteArray) (hs:s.size<=maxLen) (w:World):Calls prog 140 #[.string s,.int .i64 1,.int .i64 4] w λe w'=>
 ∃g cap,e= .returned (.tuple #[.slice (some ⟨g,0,none⟩) 4 cap,.int .i64 (gI s 4)])/\g < w'.heap.size/\(w'.cell? ⟨g,0,none⟩=some (.int .i64 (uo s (gI s 0)))/\w'.cell? ⟨g,1,none⟩=some (.int .i64 (uo s (gI s 1)))/\w'.cell? ⟨g,2,none⟩=some (.int .i64 (uo s (gI s 2)))/\w'.cell? ⟨g,3,none⟩=some (.int .i64 (uo s (gI s 3))))/\aI w w':=by
 obtain⟨i0,hi,hz0,hz1,hz2⟩:=info_parts abN;have HG:=Hq (λi w1=>Mw s i hs w1);clear hs;go_in
 go_wp2_with fail;go_loopw [8,9,10] (λv a k wr=>∃j,j<=4/\k= .int .i64 (j:Nat)/\a= .int .i64 (gI s j)/\wr.ownsRow w.heap.size 3 1 v j (numsL s j)/\aI w wr) (λ_ _ k _=>4 - (intOf k).toNat)
 case atStart=>exact⟨0,Aaa,rfl,rfl,World.ownsRow_lit _ #[] 0 (Nat.le_refl _) Aae rfl,(Below.refl _ _).alloc (Nat.le_refl _) _⟩
 case round=>
  obtain⟨j,hj,rfl,rfl,hown,hbel⟩:=hrel;by_cases hlt:j < 4
  .have HN:=Hq (TM s j);have HP:=Hq (show gI s (j+1)=jS s (gI s j) from rfl);have hg:=λw1=>HG (gI s j) w1
   generalize uo s (gI s j)=x at *;generalize jS s (gI s j)=a' at *;generalize gI s j=a at *;have Gd:=Hq hg;clear hg;go_wp2_with fail;refine(Gd _).mono ?_;rintro e w5 ⟨rfl,hb5⟩;have hown5:=own_below hown hb5;have abe:=hbel.trans (hb5.mono hbel.size);clear hb5 hown hbel;go_wp2_with (at_builtin;refine wpList_append_own _ rfl _ _ 22 rfl w.heap.size 3 i0 (.int .i64 0) 1 8 underlying22 hi hz0 hz1 hz2 rfl Aae _ _ _ rfl (hown5.alloc _) ⟨w5.heap.size,0,none⟩ 1 1 [.int .i64 x] rfl rfl ?c1 ?c2 ?c3 ?c4 ?c5 ?_)
   case c1=>exact cell_one_new _ _ _
   case c2=>intro u hu;simp at hu;subst hu;rfl
   case c3=>unfold maxLen;omega
   case c4=>omega
   case c5=>have:=abe.size;simp;omega
   intro v' w6 hown' hgrow _;have OQ:=below_append abe hown5 hgrow;rw [<-ah HN] at hown';clear hgrow hown5 abe HN;go_wp2_with fail;go_roundw
   case rel=>exact⟨j+1,Aaa,Aah,Aav,hown',OQ⟩
   case measure=>simp[intOf];omega
  .obtain rfl:j=4:=Aaa
   obtain⟨g,cap,rfl,_,_⟩:=World.ownsRow.form hown Aaa;have hc:=Hq (hown.cells (g:=g) rfl);have hlt:=(hown.lt g rfl).2;have HB:=Hq hbel;clear hown hbel;go_wp2_with fail;exact bodyPost_ret (v:= .tuple #[.slice (some ⟨g,0,none⟩) 4 cap,.int .i64 (gI s 4)]) (by simp[results,results140,go_sem]) rfl ⟨g,cap,rfl,hlt,⟨hc 0 _ rfl,hc 1 _ rfl,hc 2 _ rfl,hc 3 _ rfl⟩,HB⟩
def CZ (s:ByteArray):Value:= .tuple #[nK (mq s),.bool (jQ s)]
theorem Dw (h:jQ s=false):CZ s= .tuple #[.agg (bV 0 0 0 0 0 ⟨#[]⟩ 0),.bool false]:=by
 unfold CZ mq;rw [h,if_neg Aac];rfl
theorem KQ (h:0 < s.size):s.data.toList.headD 0=s[0]:=by
 have hl:=bq s;rw [List.headD_eq_head?_getD,List.head?_eq_getElem?,List.getElem?_eq_getElem Aaa];rfl
theorem xW (s:ByteArray) (i:Int) (hs:s.size<=maxLen) (w:World) (hH:Handle w):Calls prog 254 #[.string s,.int .i64 i] w (eG w (.tuple #[.int .i64 (uo s i),.int .i64 (jS s i)])):=by
 have h:=O9 s i w hs hH;rw [Eu] at h;exact h
theorem Lj (s:ByteArray) (i:Int) (hs:s.size<=maxLen) (w:World) (hH:Handle w):Calls prog 198 #[.string s,.int .i64 i] w (eG w (.tuple #[.string (jU s i),.int .i64 (je s i)])):=by
 have h:=Pb s i w hs hH;rw [Cu] at h;exact h
theorem ED (w:World):Calls prog 256 #[.string ByteArray.empty] w (eG w (.tuple #[.agg (bV 0 0 0 0 0 ⟨#[]⟩ 0),.bool false])):=by
 go_in
 go_wp2_with fail;exact bodyPost_ret (v:= .tuple #[.agg (bV 0 0 0 0 0 ⟨#[]⟩ 0),.bool false]) (by simp[results,results256,go_sem]) rfl ⟨rfl,ay w _⟩
theorem Db (s:ByteArray) (hs:s.size<=maxLen) (h0:0 < s.size) (w:World) (hH:Handle w):Calls prog 256 #[.string s] w (eG w (CZ s)):=by
 have IW:=Hq (λw1 h=>xW s (gI s 0) hs w1 h);have HG2:=Hq (λw1 h=>xW s (gI s 1) hs w1 h);have DY:=Hq (λw1 h=>xW s (gI s 2) hs w1 h);have HG4:=Hq (λw1 h=>xW s (gI s 3) hs w1 h);have vV:=Hq (λw1 h=>Lj s (gI s 4) hs w1 h);have HG6:=Hq (λw1 h=>xW s (je s (gI s 4)) hs w1 h);have e1:jS s (gI s 0)=gI s 1:=rfl;have e2:jS s (gI s 1)=gI s 2:=rfl;have e3:jS s (gI s 2)=gI s 3:=rfl;have e4:jS s (gI s 3)=gI s 4:=rfl;have ez:gI s 0=1:=rfl;rw [e1] at IW;rw [e2] at HG2;rw [e3] at DY;rw [e4] at HG4;have HP:=Hq (λw1=>Jw (cand s) w1);have HO:=Hq (show jQ s=(decide (wZ s=s.size)&&cZ (cand s)) by unfold jQ;rw [decide_eq_true h0];rfl);open apE in exact awC
theorem EA (s:ByteArray) (hs:s.size<=maxLen) (w:World) (hH:Handle w):Calls prog 256 #[.string s] w (eG w (CZ s)):=by
 by_cases h0:s.size=0
 .obtain rfl:=eq_empty s h0;rw [Dw (show jQ ByteArray.empty=false by unfold jQ;simp)];exact ED w
 .exact Db s hs Aaa w hH
end Go.Proofs.YtohmklmkjmlpjaaGreatDoor
