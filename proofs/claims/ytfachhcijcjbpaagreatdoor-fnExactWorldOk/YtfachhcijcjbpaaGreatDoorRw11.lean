/- Parts. -/
import Derived.Test.YtfachhcijcjbpaaGreatDoorRw8
namespace Go.Proofs.YtfachhcijcjbpaaGreatDoor
open Go.Proofs.Tryz
set_option maxHeartbeats 4000000
set_option maxRecDepth 100000
open Go.RowKit
open Mth
variable (no:Int) (k:ByteArray) (n:Int) (m:Mg) (w:World) {g:Nat} {t:TypeId}
theorem LZ (v:Value) (w:World):(Instr.typeAssert (.iface 332 v) 293 332 true).run prog w= .ok (.tuple #[v,.bool true]) w:=Aab
theorem Pv (v:Value) (w:World):(Instr.typeAssert (.iface 334 v) 293 332 true).run prog w= .ok (.tuple #[.agg #[.int .i64 0,.int .i64 0,.string ⟨#[]⟩,.int .i64 0],.bool false]) w:=Aab
theorem TU (v:Value) (w:World):(Instr.typeAssert (.iface 334 v) 293 334 true).run prog w= .ok (.tuple #[v,.bool true]) w:=Aab
theorem Pt (v:Value) (w:World):(Instr.typeAssert (.iface 336 v) 293 332 true).run prog w= .ok (.tuple #[.agg #[.int .i64 0,.int .i64 0,.string ⟨#[]⟩,.int .i64 0],.bool false]) w:=Aab
theorem TR (v:Value) (w:World):(Instr.typeAssert (.iface 336 v) 293 334 true).run prog w= .ok (.tuple #[.agg #[.int .i64 0,.int .i64 0,.int .i64 0,.int .i64 0,.string ⟨#[]⟩,.int .i64 0],.bool false]) w:=Aab
theorem TP (v:Value) (w:World):(Instr.typeAssert (.iface 336 v) 293 336 true).run prog w= .ok (.tuple #[v,.bool true]) w:=Aab
theorem yS (F T:Int) (k:ByteArray) (N:Int) (w:World):Calls prog 277 #[.iface 332 (.agg #[.int .i64 F,.int .i64 T,.string k,.int .i64 N])] w (dK w (nT ⟨0,F,T,0,0,k,N⟩)):=by
 have f0:=LZ (.agg #[.int .i64 F,.int .i64 T,.string k,.int .i64 N]);go_in
 go_wp2_with fail;refine aEE (v:= .agg (bH 0 F T 0 0 k N)) Acn rfl ⟨rfl,?_⟩;exact abg
theorem YL (F T I L:Int) (k:ByteArray) (N:Int) (w:World):Calls prog 277 #[.iface 334 (.agg #[.int .i64 F,.int .i64 T,.int .i64 I,.int .i64 L,.string k,.int .i64 N])] w (dK w (nT ⟨1,F,T,I,L,k,N⟩)):=by
 have f0:=Pv (.agg #[.int .i64 F,.int .i64 T,.int .i64 I,.int .i64 L,.string k,.int .i64 N]);have f1:=TU (.agg #[.int .i64 F,.int .i64 T,.int .i64 I,.int .i64 L,.string k,.int .i64 N]);go_in
 go_wp2_with fail;refine aEE (v:= .agg (bH 1 F T I L k N)) Acn rfl ⟨rfl,?_⟩;exact abg
theorem wR (F T I:Int) (w:World):Calls prog 277 #[.iface 336 (.agg #[.int .i64 F,.int .i64 T,.int .i64 I])] w (dK w (nT ⟨2,F,T,I,0,ByteArray.empty,0⟩)):=by
 have f0:=Pt (.agg #[.int .i64 F,.int .i64 T,.int .i64 I]);have f1:=TR (.agg #[.int .i64 F,.int .i64 T,.int .i64 I]);have f2:=TP (.agg #[.int .i64 F,.int .i64 T,.int .i64 I]);go_in
 go_wp2_with fail;refine aEE (v:= .agg (bH 2 F T I 0 ByteArray.empty 0)) Acn rfl ⟨rfl,?_⟩;exact abg
def wO (m:Mg):Value:=
 if m.K=0 then .iface 332 (.agg #[.int .i64 m.F,.int .i64 m.T,.string m.k,.int .i64 m.N])
 else if m.K=1 then .iface 334 (.agg #[.int .i64 m.F,.int .i64 m.T,.int .i64 m.I,.int .i64 m.L,.string m.k,.int .i64 m.N])
 else if m.K=2 then .iface 336 (.agg #[.int .i64 m.F,.int .i64 m.T,.int .i64 m.I])
 else .nilIface
theorem Xi (v:Value) (w:World):(method 538 332 v "loop.example/g00264/impl.ok").run prog w= .ok (350,v) w:=Aab
theorem acW (v:Value) (w:World):(method 538 334 v "loop.example/g00264/impl.ok").run prog w= .ok (351,v) w:=Aab
theorem acV (v:Value) (w:World):(method 538 336 v "loop.example/g00264/impl.ok").run prog w= .ok (352,v) w:=Aab
theorem AA (F:Int) (T:Int) (I:Int) (L:Int) (k:ByteArray) (N:Int) (w:World) (hr:(mG F T&&keyOk k.data.toList&&fC N)=false):Calls prog 243 #[nT ⟨0,F,T,I,L,k,N⟩] w (dK w (.tuple #[wO ⟨0,F,T,I,L,k,N⟩,.bool (bJ ⟨0,F,T,I,L,k,N⟩)])):=by
 have HP:=Hq (show bJ ⟨0,F,T,I,L,k,N⟩=false by simp only[Bool.and_eq_false_iff] at hr;rcases hr with(h|h)|h<;>simp[bJ,h]);have HO:=Hq (λw1=>Oh F T k N false w1 hr);open aqC in exact IK
theorem Av (F:Int) (T:Int) (I:Int) (L:Int) (k:ByteArray) (N:Int) (w:World) (hr:(mG F T&&keyOk k.data.toList&&fC N)=true) (hI:¬0=I):Calls prog 243 #[nT ⟨0,F,T,I,L,k,N⟩] w (dK w (.tuple #[wO ⟨0,F,T,I,L,k,N⟩,.bool (bJ ⟨0,F,T,I,L,k,N⟩)])):=by
 have HP:=Hq (show bJ ⟨0,F,T,I,L,k,N⟩=false by simp only[aED] at hr;obtain⟨⟨h1,h2⟩,h3⟩:=hr;simp[bJ,h1,h2,h3,Ne.symm hI]);have HO:=Hq (λw1=>Oh F T k N true w1 hr);have HM:=Hq (λw1=>yS F T k N w1);open aqB in exact IK
theorem yQ (F:Int) (T:Int) (L:Int) (k:ByteArray) (N:Int) (w:World) (hr:(mG F T&&keyOk k.data.toList&&fC N)=true) (hL:¬0=L):Calls prog 243 #[nT ⟨0,F,T,0,L,k,N⟩] w (dK w (.tuple #[wO ⟨0,F,T,0,L,k,N⟩,.bool (bJ ⟨0,F,T,0,L,k,N⟩)])):=by
 have HP:=Hq (show bJ ⟨0,F,T,0,L,k,N⟩=false by simp only[aED] at hr;obtain⟨⟨h1,h2⟩,h3⟩:=hr;simp[bJ,h1,h2,h3,Ne.symm hL]);have HO:=Hq (λw1=>Oh F T k N true w1 hr);have HM:=Hq (λw1=>yS F T k N w1);open aqA in exact IK
theorem yR (F:Int) (T:Int) (k:ByteArray) (N:Int) (w:World) (hr:(mG F T&&keyOk k.data.toList&&fC N)=true):Calls prog 243 #[nT ⟨0,F,T,0,0,k,N⟩] w (dK w (.tuple #[wO ⟨0,F,T,0,0,k,N⟩,.bool (bJ ⟨0,F,T,0,0,k,N⟩)])):=by
 have HP:=Hq (show bJ ⟨0,F,T,0,0,k,N⟩=true by simp only[aED] at hr;obtain⟨⟨h1,h2⟩,h3⟩:=hr;simp[bJ,h1,h2,h3]);have HO:=Hq (λw1=>Oh F T k N true w1 hr);have HM:=Hq (λw1=>yS F T k N w1);open aqz in exact IK
theorem Cj (F:Int) (T:Int) (I:Int) (L:Int) (k:ByteArray) (N:Int) (w:World) (hr:(mG F T&&fC I&&decide (1<=L)&&decide (L<=I)&&keyOk k.data.toList&&fC N)=false):Calls prog 243 #[nT ⟨1,F,T,I,L,k,N⟩] w (dK w (.tuple #[wO ⟨1,F,T,I,L,k,N⟩,.bool (bJ ⟨1,F,T,I,L,k,N⟩)])):=by
 have HP:=Hq (show bJ ⟨1,F,T,I,L,k,N⟩=false by simp only[Bool.and_eq_false_iff,aGv] at hr;rcases hr with((((h|h)|h)|h)|h)|h<;>simp[bJ,h]<;>omega);have HO:=Hq (λw1=>ajp F T I L k N false w1 hr);open aqy in exact IK
theorem Au (F:Int) (T:Int) (I:Int) (L:Int) (k:ByteArray) (N:Int) (w:World) (hr:(mG F T&&fC I&&decide (1<=L)&&decide (L<=I)&&keyOk k.data.toList&&fC N)=true):Calls prog 243 #[nT ⟨1,F,T,I,L,k,N⟩] w (dK w (.tuple #[wO ⟨1,F,T,I,L,k,N⟩,.bool (bJ ⟨1,F,T,I,L,k,N⟩)])):=by
 have HP:=Hq (show bJ ⟨1,F,T,I,L,k,N⟩=true by simp only[aED,aE3] at hr;obtain⟨⟨⟨⟨⟨h1,h2⟩,h3⟩,h4⟩,h5⟩,h6⟩:=hr;simp[bJ,h1,h2,h3,h4,h5,h6]);have HO:=Hq (λw1=>ajp F T I L k N true w1 hr);have HM:=Hq (λw1=>YL F T I L k N w1);open aqx in exact IK
theorem Ci (F:Int) (T:Int) (I:Int) (L:Int) (k:ByteArray) (N:Int) (w:World) (hr:(mG F T&&fC I)=false):Calls prog 243 #[nT ⟨2,F,T,I,L,k,N⟩] w (dK w (.tuple #[wO ⟨2,F,T,I,L,k,N⟩,.bool (bJ ⟨2,F,T,I,L,k,N⟩)])):=by
 have HP:=Hq (show bJ ⟨2,F,T,I,L,k,N⟩=false by simp only[Bool.and_eq_false_iff] at hr;rcases hr with h|h<;>simp[bJ,h]);have HO:=Hq (λw1=>Po F T I false w1 hr);open aqw in exact IK
theorem Aq (F:Int) (T:Int) (I:Int) (L:Int) (k:ByteArray) (N:Int) (w:World) (hr:(mG F T&&fC I)=true) (hL:¬0=L):Calls prog 243 #[nT ⟨2,F,T,I,L,k,N⟩] w (dK w (.tuple #[wO ⟨2,F,T,I,L,k,N⟩,.bool (bJ ⟨2,F,T,I,L,k,N⟩)])):=by
 have HP:=Hq (show bJ ⟨2,F,T,I,L,k,N⟩=false by simp only[aED] at hr;obtain⟨h1,h2⟩:=hr;simp[bJ,h1,h2,Ne.symm hL]);have HO:=Hq (λw1=>Po F T I true w1 hr);have HM:=Hq (λw1=>wR F T I w1);open aqv in exact IK
theorem Ap (F:Int) (T:Int) (I:Int) (k:ByteArray) (N:Int) (w:World) (hr:(mG F T&&fC I)=true) (hk:¬k.size=0):Calls prog 243 #[nT ⟨2,F,T,I,0,k,N⟩] w (dK w (.tuple #[wO ⟨2,F,T,I,0,k,N⟩,.bool (bJ ⟨2,F,T,I,0,k,N⟩)])):=by
 have HP:=Hq (show bJ ⟨2,F,T,I,0,k,N⟩=false by simp only[aED] at hr;obtain⟨h1,h2⟩:=hr;simp[bJ,h1,h2,hk]);have HO:=Hq (λw1=>Po F T I true w1 hr);have HM:=Hq (λw1=>wR F T I w1);clear hr;have hne:¬k.toList=[]:=by rw [aFk];intro h;have:=aZ k;rw [h] at this;simp at this;omega
 have hne2:¬[]=k.toList:=λh=>hne h.symm
 clear hk;go_in
 go_upto_region 11 with fail;refine wp_at (λV hV=>?_);have hblk:V.heap[w.heap.size]?=some (.cells (bH 2 F T I 0 k N) 104 (0,0)):=by rw [hV,aEI _ _ _ Aac];exact aEu w _
 open aAb in exact Yk2
theorem D6 (F:Int) (T:Int) (I:Int) (N:Int) (w:World) (hr:(mG F T&&fC I)=true) (hN:¬0=N):Calls prog 243 #[nT ⟨2,F,T,I,0,ByteArray.empty,N⟩] w (dK w (.tuple #[wO ⟨2,F,T,I,0,ByteArray.empty,N⟩,.bool (bJ ⟨2,F,T,I,0,ByteArray.empty,N⟩)])):=by
 have HP:=Hq (show bJ ⟨2,F,T,I,0,ByteArray.empty,N⟩=false by simp only[aED] at hr;obtain⟨h1,h2⟩:=hr;simp[bJ,h1,h2,Ne.symm hN]);have HO:=Hq (λw1=>Po F T I true w1 hr);have HM:=Hq (λw1=>wR F T I w1);open aqu in exact IK
theorem Ar (F:Int) (T:Int) (I:Int) (w:World) (hr:(mG F T&&fC I)=true):Calls prog 243 #[nT ⟨2,F,T,I,0,ByteArray.empty,0⟩] w (dK w (.tuple #[wO ⟨2,F,T,I,0,ByteArray.empty,0⟩,.bool (bJ ⟨2,F,T,I,0,ByteArray.empty,0⟩)])):=by
 have HP:=Hq (show bJ ⟨2,F,T,I,0,ByteArray.empty,0⟩=true by simp only[aED] at hr;obtain⟨h1,h2⟩:=hr;simp[bJ,h1,h2]);have HO:=Hq (λw1=>Po F T I true w1 hr);have HM:=Hq (λw1=>wR F T I w1);open aqt in exact IK
theorem F6 (K F T I L:Int) (k:ByteArray) (N:Int) (w:World) (k0:¬K=0) (k1:¬K=1) (k2:¬K=2):Calls prog 243 #[nT ⟨K,F,T,I,L,k,N⟩] w (dK w (.tuple #[wO ⟨K,F,T,I,L,k,N⟩,.bool (bJ ⟨K,F,T,I,L,k,N⟩)])):=by
 have HP:=Hq (show bJ ⟨K,F,T,I,L,k,N⟩=false by simp[bJ,k0,k1,k2]);have HV:=Hq (show wO ⟨K,F,T,I,L,k,N⟩= .nilIface by simp[wO,k0,k1,k2]);go_in
 go_wp2_with fail;exact aEE (v:= .tuple #[.nilIface,.bool false]) (by simp[results,results243,go_sem]) rfl ⟨by rw [ah HP,ah HV],((aEK _ _).alloc (aEx _) _).alloc Aac _⟩
theorem YK (m:Mg) (w:World):Calls prog 243 #[nT m] w (dK w (.tuple #[wO m,.bool (bJ m)])):=by
 obtain⟨K,F,T,I,L,k,N⟩:=m;by_cases k0:K=0
 .subst k0;cases hr:(mG F T&&keyOk k.data.toList&&fC N)
  .exact AA F T I L k N w hr
  by_cases hI:0=I
  .subst hI;by_cases hL:0=L
   .subst hL;exact yR F T k N w hr
   .exact yQ F T L k N w hr hL
  .exact Av F T I L k N w hr hI
 by_cases k1:K=1
 .subst k1;cases hr:(mG F T&&fC I&&decide (1<=L)&&decide (L<=I)&&keyOk k.data.toList&&fC N)
  .exact Cj F T I L k N w hr
  .exact Au F T I L k N w hr
 by_cases k2:K=2
 .subst k2;cases hr:(mG F T&&fC I)
  .exact Ci F T I L k N w hr
  by_cases hL:0=L
  .subst hL;by_cases hk:k.size=0
   .obtain rfl:=eq_empty k hk;by_cases hN:0=N
    .subst hN;exact Ar F T I w hr
    .exact D6 F T I N w hr hN
   .exact Ap F T I k N w hr hk
  .exact Aq F T I L k N w hr hL
 exact F6 K F T I L k N w k0 k1 k2
theorem Kj (m:Mg) (w:World):Calls prog 218 #[nT m] w (dK w (.bool (bJ m))):=by
 have HM:=Hq (λw1=>YK m w1);generalize bJ m=r at *;generalize wO m=v at *;obtain⟨K,F,T,I,L,k,N⟩:=m;go_in
 go_wp2_with fail;refine(HM _).mono ?_;rintro e w1 ⟨rfl,hb1⟩;go_wp2
 go_ret;exact⟨rfl,(au w _).trans (hb1.mono Aac)⟩
theorem Below.setNew {B i:Nat} {w w':World} {v:Value} (h:Below B w w') (hg:B<=g):Below B w (w'.setCell ⟨g,i,none⟩ v):=
 ⟨h.os,h.tape,h.output,by simpa [World.setCell] using h.size,λk hk=>by
  have hkg:k≠g:=Aaa
  rw [aEU _ _ _ _ hkg]
  exact h.block k hk⟩
theorem uL {w:World} {cs:Array Value} (h:w.heap[g]?=some (.cells cs t (0,0))) (i:Nat):w.frozen? ⟨g,i,none⟩=false:=by unfold World.frozen?;rw [h];simp
theorem lq (w:World) (a b:Obj):((w.alloc a).alloc b).heap[w.heap.size]?=some a/\((w.alloc a).alloc b).heap[w.heap.size+1]?=some b:=by
 have h1:=aI (aEu w a) (au (w.alloc a) b);have h2:=aEu (w.alloc a) b;rw [show(w.alloc a).heap.size=w.heap.size+1 by simp] at h2;exact⟨h1,h2⟩
theorem jo (w:World) (a b:Obj):Below w.heap.size w ((w.alloc a).alloc b):=(au w a).alloc Aac b
theorem Ej {w:World} {v0 v1 v2 v3 v4 v5 v6 v7 v8 v9 v10:Value} (h:w.heap[g]?=some (.cells #[v0,v1,v2,v3,v4,v5,v6,v7,v8,v9,v10] t (0,0))):
 w.cell? ⟨g,0,none⟩=some v0/\w.cell? ⟨g,1,none⟩=some v1/\w.cell? ⟨g,2,none⟩=some v2/\w.cell? ⟨g,3,none⟩=some v3/\w.cell? ⟨g,4,none⟩=some v4/\w.cell? ⟨g,5,none⟩=some v5/\w.cell? ⟨g,6,none⟩=some v6/\w.cell? ⟨g,7,none⟩=some v7/\w.cell? ⟨g,8,none⟩=some v8/\w.cell? ⟨g,9,none⟩=some v9/\w.cell? ⟨g,10,none⟩=some v10:=by
 exact ah5
theorem Jc:Calls prog 202 #[jF ⟨0,no,k,n,m⟩] w (dK w (.bool (bC ⟨0,no,k,n,m⟩))):=by
 obtain⟨mK,mF,mT,mI,mL,mk,mN⟩:=m;obtain⟨R,hR⟩:∃R,bC ⟨0,no,k,n,⟨mK,mF,mT,mI,mL,mk,mN⟩⟩=R:=⟨_,rfl⟩;rw [hR];have HR:=Hq hR;clear hR;cases hk:keyOk k.data.toList
 .exact aki
 .have HK:=Hq (λw1=>gW k true w1 hk);cases hn:fC n
  .exact akp
  .open am3 in exact aj1
theorem Je:Calls prog 202 #[jF ⟨3,no,k,n,m⟩] w (dK w (.bool (bC ⟨3,no,k,n,m⟩))):=by
 obtain⟨mK,mF,mT,mI,mL,mk,mN⟩:=m;obtain⟨R,hR⟩:∃R,bC ⟨3,no,k,n,⟨mK,mF,mT,mI,mL,mk,mN⟩⟩=R:=⟨_,rfl⟩;rw [hR];have HR:=Hq hR;clear hR;cases hk:keyOk k.data.toList
 .exact aki
 .have HK:=Hq (λw1=>gW k true w1 hk);cases hn:fC n
  .exact akp
  .open am2 in exact aj1
theorem I9:Calls prog 202 #[jF ⟨4,no,k,n,m⟩] w (dK w (.bool (bC ⟨4,no,k,n,m⟩))):=by
 obtain⟨mK,mF,mT,mI,mL,mk,mN⟩:=m;obtain⟨R,hR⟩:∃R,bC ⟨4,no,k,n,⟨mK,mF,mT,mI,mL,mk,mN⟩⟩=R:=⟨_,rfl⟩;rw [hR];have HR:=Hq hR;clear hR;cases hk:keyOk k.data.toList
 .exact aki
 .have HK:=Hq (λw1=>gW k true w1 hk);cases hn:fC n
  .exact akp
  .open am1 in exact aj1
theorem FJ:Calls prog 202 #[jF ⟨1,no,k,n,m⟩] w (dK w (.bool (bC ⟨1,no,k,n,m⟩))):=by
 obtain⟨mK,mF,mT,mI,mL,mk,mN⟩:=m;obtain⟨R,hR⟩:∃R,bC ⟨1,no,k,n,⟨mK,mF,mT,mI,mL,mk,mN⟩⟩=R:=⟨_,rfl⟩;rw [hR];have HR:=Hq hR;clear hR;cases ho:fC no
 .have HO:=Hq (λw1=>aL no false w1 ho);cases hk:keyOk k.data.toList
  .have HK:=Hq (λw1=>gW k false w1 hk);cases hn:fC n
   .have HN:=Hq (λw1=>aL n false w1 hn);have HP:=Hq (show R=(false&&false&&false&&lK ⟨mK,mF,mT,mI,mL,mk,mN⟩) by rw [<-ah HR];simp[bC,ho,hk,hn]);exact TG
   .have HN:=Hq (λw1=>aL n true w1 hn);have HP:=Hq (show R=(false&&false&&true&&lK ⟨mK,mF,mT,mI,mL,mk,mN⟩) by rw [<-ah HR];simp[bC,ho,hk,hn]);exact TG
  .have HK:=Hq (λw1=>gW k true w1 hk);cases hn:fC n
   .have HN:=Hq (λw1=>aL n false w1 hn);have HP:=Hq (show R=(false&&true&&false&&lK ⟨mK,mF,mT,mI,mL,mk,mN⟩) by rw [<-ah HR];simp[bC,ho,hk,hn]);exact TG
   .have HN:=Hq (λw1=>aL n true w1 hn);have HP:=Hq (show R=(false&&true&&true&&lK ⟨mK,mF,mT,mI,mL,mk,mN⟩) by rw [<-ah HR];simp[bC,ho,hk,hn]);exact TG
 .have HO:=Hq (λw1=>aL no true w1 ho);cases hk:keyOk k.data.toList
  .have HK:=Hq (λw1=>gW k false w1 hk);cases hn:fC n
   .have HN:=Hq (λw1=>aL n false w1 hn);have HP:=Hq (show R=(true&&false&&false&&lK ⟨mK,mF,mT,mI,mL,mk,mN⟩) by rw [<-ah HR];simp[bC,ho,hk,hn]);exact TG
   .have HN:=Hq (λw1=>aL n true w1 hn);have HP:=Hq (show R=(true&&false&&true&&lK ⟨mK,mF,mT,mI,mL,mk,mN⟩) by rw [<-ah HR];simp[bC,ho,hk,hn]);exact TG
  .have HK:=Hq (λw1=>gW k true w1 hk);cases hn:fC n
   .have HN:=Hq (λw1=>aL n false w1 hn);have HP:=Hq (show R=(true&&true&&false&&lK ⟨mK,mF,mT,mI,mL,mk,mN⟩) by rw [<-ah HR];simp[bC,ho,hk,hn]);exact TG
   .have HN:=Hq (λw1=>aL n true w1 hn);have HP:=Hq (show R=(true&&true&&true&&lK ⟨mK,mF,mT,mI,mL,mk,mN⟩) by rw [<-ah HR];simp[bC,ho,hk,hn]);open ar1 in exact agF
theorem Ce:Calls prog 202 #[jF ⟨2,no,k,n,m⟩] w (dK w (.bool (bC ⟨2,no,k,n,m⟩))):=by
 obtain⟨mK,mF,mT,mI,mL,mk,mN⟩:=m;obtain⟨R,hR⟩:∃R,bC ⟨2,no,k,n,⟨mK,mF,mT,mI,mL,mk,mN⟩⟩=R:=⟨_,rfl⟩;rw [hR];have HR:=Hq hR;clear hR;cases ho:fC no
 .have HO:=Hq (λw1=>aL no false w1 ho);have HP:=Hq (show R=(decide (k.toList=[])&&decide (n=0)&&false&&lK ⟨mK,mF,mT,mI,mL,mk,mN⟩) by rw [<-ah HR];simp[bC,ho]);clear HR;clear ho;go_in
  go_wp2_with (first|(go_at_call_of 179 no;refine(HO _).mono ?_;rintro e w1 ⟨rfl,rfl⟩))
  go_ret;exact⟨aF (by rw [ah HP];simp),by first|exact jo w _ _|exact Below.setNew (jo w _ _) Aaa⟩
 .have HO:=Hq (λw1=>aL no true w1 ho);have HP:=Hq (show R=(decide (k.toList=[])&&decide (n=0)&&true&&lK ⟨mK,mF,mT,mI,mL,mk,mN⟩) by rw [<-ah HR];simp[bC,ho]);clear HR;clear ho;go_in
  go_upto_region 23 with(first|(go_at_call_of 179 no;refine(HO _).mono ?_;rintro e w1 ⟨rfl,rfl⟩))
  open atq in exact Wv
theorem Jd:Calls prog 202 #[jF ⟨5,no,k,n,m⟩] w (dK w (.bool (bC ⟨5,no,k,n,m⟩))):=by
 open asM in exact agO
theorem Jb:Calls prog 202 #[jF ⟨6,no,k,n,m⟩] w (dK w (.bool (bC ⟨6,no,k,n,m⟩))):=by
 have HM:=Hq (λw1=>Kj m w1);open atH in exact ag1
theorem Ja (K no:Int) (k:ByteArray) (n:Int) (m:Mg) (w:World) (h0:¬K=0) (h1:¬K=1) (h2:¬K=2) (h3:¬K=3) (h4:¬K=4) (h5:¬K=5) (h6:¬K=6):Calls prog 202 #[jF ⟨K,no,k,n,m⟩] w (dK w (.bool (bC ⟨K,no,k,n,m⟩))):=by
 have HP:=Hq (show bC ⟨K,no,k,n,m⟩=false by simp[bC,h0,h1,h2,h3,h4,h5,h6]);obtain⟨mK,mF,mT,mI,mL,mk,mN⟩:=m;go_in
 go_wp2_with fail;go_ret;exact⟨aF HP.symm,jo w _ _⟩
theorem Qk (o:gD) (w:World):Calls prog 202 #[jF o] w (dK w (.bool (bC o))):=by
 obtain⟨K,no,k,n,m⟩:=o;by_cases h0:K=0
 .subst h0;exact Jc no k n m w
 by_cases h1:K=1
 .subst h1;exact FJ no k n m w
 by_cases h2:K=2
 .subst h2;exact Ce no k n m w
 by_cases h3:K=3
 .subst h3;exact Je no k n m w
 by_cases h4:K=4
 .subst h4;exact I9 no k n m w
 by_cases h5:K=5
 .subst h5;exact Jd no k n m w
 by_cases h6:K=6
 .subst h6;exact Jb no k n m w
 exact Ja K no k n m w h0 h1 h2 h3 h4 h5 h6
theorem YC (o:gD) (w:World):Calls prog 241 #[jF o] w (dK w (.bool (bC o))):=by
 have HO:=Hq (λw1=>Qk o w1);generalize bC o=r at *;obtain⟨K,no,k,n,⟨mK,mF,mT,mI,mL,mk,mN⟩⟩:=o;go_in
 exact ah6
theorem Ea (K F T I L:Int) (k:ByteArray) (N:Int) (w:World) (_hs:k.size<=maxLen) (hr:mG F T=false):Calls prog 136 #[nT ⟨K,F,T,I,L,k,N⟩] w (dK w (.bool (bJ ⟨K,F,T,I,L,k,N⟩))):=by
 cases h1:uH F
 case' false=>
  have HP:=Hq (show bJ ⟨K,F,T,I,L,k,N⟩=false by simp[bJ,mG,h1]);have H1:=Hq (λw1=>nH F false w1 h1);clear h1 hr;exact aiz
 have H1:=Hq (λw1=>nH F true w1 h1);cases h2:uH T
 case' false=>
  have HP:=Hq (show bJ ⟨K,F,T,I,L,k,N⟩=false by simp[bJ,mG,h2]);have H2:=Hq (λw1=>nH T false w1 h2);clear h1 h2 hr;exact ahZ
 have H2:=Hq (λw1=>nH T true w1 h2)
 have hft:F=T:=by
  rcases Decidable.em (F=T) with h|h
  .exact h
  .simp[mG,h1,h2,h] at hr
 have HP:=Hq (show bJ ⟨K,F,T,I,L,k,N⟩=false by simp[bJ,mG,hft]);clear h1 h2 hr;subst hft;exact aiz
theorem GL (_K F T I L:Int) (k:ByteArray) (N:Int) (w:World) (hs:k.size<=maxLen) (hr:mG F T=true):Calls prog 136 #[nT ⟨0,F,T,I,L,k,N⟩] w (dK w (.bool (bJ ⟨0,F,T,I,L,k,N⟩))):=by
 open ang in exact aeE
theorem Jv (_K F T I L:Int) (k:ByteArray) (N:Int) (w:World) (hs:k.size<=maxLen) (hr:mG F T=true):Calls prog 136 #[nT ⟨1,F,T,I,L,k,N⟩] w (dK w (.bool (bJ ⟨1,F,T,I,L,k,N⟩))):=by
 open anf in exact aeE
theorem Ju (_K F T I L:Int) (k:ByteArray) (N:Int) (w:World) (hs:k.size<=maxLen) (hr:mG F T=true):Calls prog 136 #[nT ⟨2,F,T,I,L,k,N⟩] w (dK w (.bool (bJ ⟨2,F,T,I,L,k,N⟩))):=by
 open ane in exact aeE
theorem GK (K F T I L:Int) (k:ByteArray) (N:Int) (w:World) (_hs:k.size<=maxLen) (hr:mG F T=true) (k0:¬K=0) (k1:¬K=1) (k2:¬K=2):Calls prog 136 #[nT ⟨K,F,T,I,L,k,N⟩] w (dK w (.bool (bJ ⟨K,F,T,I,L,k,N⟩))):=by
 open anb in exact aeE
theorem kD (m:Mg) (w:World) (hs:m.k.size<=maxLen):Calls prog 136 #[nT m] w (dK w (.bool (bJ m))):=by
 obtain⟨K,F,T,I,L,k,N⟩:=m;cases hr:mG F T
 .exact Ea K F T I L k N w hs hr
 by_cases k0:K=0
 .subst k0;exact GL 0 F T I L k N w hs hr
 by_cases k1:K=1
 .subst k1;exact Jv 0 F T I L k N w hs hr
 by_cases k2:K=2
 .subst k2;exact Ju 0 F T I L k N w hs hr
 exact GK K F T I L k N w hs hr k0 k1 k2
theorem JA (hs:k.size<=maxLen):Calls prog 96 #[jF ⟨0,no,k,n,m⟩] w (dK w (.bool (bC ⟨0,no,k,n,m⟩))):=by
 obtain⟨mK,mF,mT,mI,mL,mk,mN⟩:=m;obtain⟨R,hR⟩:∃R,bC ⟨0,no,k,n,⟨mK,mF,mT,mI,mL,mk,mN⟩⟩=R:=⟨_,rfl⟩;exact Zk5
theorem JC (hs:k.size<=maxLen):Calls prog 96 #[jF ⟨3,no,k,n,m⟩] w (dK w (.bool (bC ⟨3,no,k,n,m⟩))):=by
 obtain⟨mK,mF,mT,mI,mL,mk,mN⟩:=m;obtain⟨R,hR⟩:∃R,bC ⟨3,no,k,n,⟨mK,mF,mT,mI,mL,mk,mN⟩⟩=R:=⟨_,rfl⟩;exact Zk5
theorem Jw (hs:k.size<=maxLen):Calls prog 96 #[jF ⟨4,no,k,n,m⟩] w (dK w (.bool (bC ⟨4,no,k,n,m⟩))):=by
 obtain⟨mK,mF,mT,mI,mL,mk,mN⟩:=m;obtain⟨R,hR⟩:∃R,bC ⟨4,no,k,n,⟨mK,mF,mT,mI,mL,mk,mN⟩⟩=R:=⟨_,rfl⟩;exact Zk5
theorem GQ (hs:k.size<=maxLen):Calls prog 96 #[jF ⟨1,no,k,n,m⟩] w (dK w (.bool (bC ⟨1,no,k,n,m⟩))):=by
 obtain⟨mK,mF,mT,mI,mL,mk,mN⟩:=m;obtain⟨R,hR⟩:∃R,bC ⟨1,no,k,n,⟨mK,mF,mT,mI,mL,mk,mN⟩⟩=R:=⟨_,rfl⟩;rw [hR];have HR:=Hq hR;clear hR;cases hk:keyOk k.data.toList
 .have HK:=Hq (λw1=>nY k false w1 hs hk);cases hn:fC n
  .have HN:=Hq (λw1=>dZ n false w1 hn);cases ho:fC no
   .have HO:=Hq (λw1=>dZ no false w1 ho);have HP:=Hq (show R=(false&&false&&false&&lK ⟨mK,mF,mT,mI,mL,mk,mN⟩) by rw [<-ah HR];simp[bC,hk,hn,ho]);exact Ph
   .have HO:=Hq (λw1=>dZ no true w1 ho);have HP:=Hq (show R=(false&&false&&true&&lK ⟨mK,mF,mT,mI,mL,mk,mN⟩) by rw [<-ah HR];simp[bC,hk,hn,ho]);exact Ph
  .have HN:=Hq (λw1=>dZ n true w1 hn);cases ho:fC no
   .have HO:=Hq (λw1=>dZ no false w1 ho);have HP:=Hq (show R=(false&&true&&false&&lK ⟨mK,mF,mT,mI,mL,mk,mN⟩) by rw [<-ah HR];simp[bC,hk,hn,ho]);exact Ph
   .have HO:=Hq (λw1=>dZ no true w1 ho);have HP:=Hq (show R=(false&&true&&true&&lK ⟨mK,mF,mT,mI,mL,mk,mN⟩) by rw [<-ah HR];simp[bC,hk,hn,ho]);exact Ph
 .have HK:=Hq (λw1=>nY k true w1 hs hk);cases hn:fC n
  .have HN:=Hq (λw1=>dZ n false w1 hn);cases ho:fC no
   .have HO:=Hq (λw1=>dZ no false w1 ho);have HP:=Hq (show R=(true&&false&&false&&lK ⟨mK,mF,mT,mI,mL,mk,mN⟩) by rw [<-ah HR];simp[bC,hk,hn,ho]);exact Ph
   .have HO:=Hq (λw1=>dZ no true w1 ho);have HP:=Hq (show R=(true&&false&&true&&lK ⟨mK,mF,mT,mI,mL,mk,mN⟩) by rw [<-ah HR];simp[bC,hk,hn,ho]);exact Ph
  .have HN:=Hq (λw1=>dZ n true w1 hn);cases ho:fC no
   .have HO:=Hq (λw1=>dZ no false w1 ho);have HP:=Hq (show R=(true&&true&&false&&lK ⟨mK,mF,mT,mI,mL,mk,mN⟩) by rw [<-ah HR];simp[bC,hk,hn,ho]);exact Ph
   .have HO:=Hq (λw1=>dZ no true w1 ho);have HP:=Hq (show R=(true&&true&&true&&lK ⟨mK,mF,mT,mI,mL,mk,mN⟩) by rw [<-ah HR];simp[bC,hk,hn,ho]);exact Ph
theorem CB (_hs:k.size<=maxLen):Calls prog 96 #[jF ⟨2,no,k,n,m⟩] w (dK w (.bool (bC ⟨2,no,k,n,m⟩))):=by
 obtain⟨mK,mF,mT,mI,mL,mk,mN⟩:=m;obtain⟨R,hR⟩:∃R,bC ⟨2,no,k,n,⟨mK,mF,mT,mI,mL,mk,mN⟩⟩=R:=⟨_,rfl⟩;rw [hR];have HR:=Hq hR;clear hR;cases ho:fC no
 .have HO:=Hq (λw1=>dZ no false w1 ho);have HP:=Hq (show R=(decide (k.toList=[])&&decide (n=0)&&false&&lK ⟨mK,mF,mT,mI,mL,mk,mN⟩) by rw [<-ah HR];simp[bC,ho]);exact ahJ
 .have HO:=Hq (λw1=>dZ no true w1 ho);have HP:=Hq (show R=(decide (k.toList=[])&&decide (n=0)&&true&&lK ⟨mK,mF,mT,mI,mL,mk,mN⟩) by rw [<-ah HR];simp[bC,ho]);exact ahJ
theorem JB (_hs:k.size<=maxLen):Calls prog 96 #[jF ⟨5,no,k,n,m⟩] w (dK w (.bool (bC ⟨5,no,k,n,m⟩))):=by
 open asN in exact agO
theorem Jz (hm:m.k.size<=maxLen):Calls prog 96 #[jF ⟨6,no,k,n,m⟩] w (dK w (.bool (bC ⟨6,no,k,n,m⟩))):=by
 have HM:=Hq (λw1=>kD m w1 hm);open atI in exact ag1
theorem Jy (K no:Int) (k:ByteArray) (n:Int) (m:Mg) (w:World) (h0:¬K=0) (h1:¬K=1) (h2:¬K=2) (h3:¬K=3) (h4:¬K=4) (h5:¬K=5) (h6:¬K=6):Calls prog 96 #[jF ⟨K,no,k,n,m⟩] w (dK w (.bool (bC ⟨K,no,k,n,m⟩))):=by
 have HP:=Hq (show bC ⟨K,no,k,n,m⟩=false by simp[bC,h0,h1,h2,h3,h4,h5,h6]);obtain⟨mK,mF,mT,mI,mL,mk,mN⟩:=m;go_in
 go_wp2_with fail;exact xH
theorem jl (o:gD) (w:World) (hs:o.k.size<=maxLen) (hm:o.m.k.size<=maxLen):Calls prog 96 #[jF o] w (dK w (.bool (bC o))):=by
 obtain⟨K,no,k,n,m⟩:=o;by_cases h0:K=0
 .subst h0;exact JA no k n m w hs
 by_cases h1:K=1
 .subst h1;exact GQ no k n m w hs
 by_cases h2:K=2
 .subst h2;exact CB no k n m w hs
 by_cases h3:K=3
 .subst h3;exact JC no k n m w hs
 by_cases h4:K=4
 .subst h4;exact Jw no k n m w hs
 by_cases h5:K=5
 .subst h5;exact JB no k n m w hs
 by_cases h6:K=6
 .subst h6;exact Jz no k n m w hm
 exact Jy K no k n m w h0 h1 h2 h3 h4 h5 h6
end Go.Proofs.YtfachhcijcjbpaaGreatDoor
