/- Parts. -/
import Derived.Test.YtohmklmkjmlpjaaGreatDoorRc5
import Derived.Test.YtohmklmkjmlpjaaGreatDoorRc4
import Derived.Test.YtohmklmkjmlpjaaGreatDoorRc6
namespace Go.Proofs.YtohmklmkjmlpjaaGreatDoor
open Go.Proofs.Tryz
set_option maxHeartbeats 4000000
set_option maxRecDepth 100000
open Go.RowKit
open Mth
variable (F:Int) (T:Int) (I:Int) (L:Int) (k:ByteArray) (N:Int) (w:World) {W:World} {g:Nat} {t:TypeId}
def xA (m:Mg):Value:=
 if m.K=0 then .iface 282 (.agg #[.int .i64 m.F,.int .i64 m.T,.string m.k,.int .i64 m.N])
 else if m.K=1 then .iface 284 (.agg #[.int .i64 m.F,.int .i64 m.T,.int .i64 m.I,.int .i64 m.L,.string m.k,.int .i64 m.N])
 else if m.K=2 then .iface 286 (.agg #[.int .i64 m.F,.int .i64 m.T,.int .i64 m.I])
 else .nilIface
theorem Xe (v:Value) (w:World):(method 501 282 v "loop.example/g00264/impl.ok").run prog w= .ok (342,v) w:=Aab
theorem adn (v:Value) (w:World):(method 501 284 v "loop.example/g00264/impl.ok").run prog w= .ok (343,v) w:=Aab
theorem adl (v:Value) (w:World):(method 501 286 v "loop.example/g00264/impl.ok").run prog w= .ok (344,v) w:=Aab
theorem Au (hr:(nC F T&&keyOk k.data.toList&&fO N)=false):Calls prog 234 #[oz ⟨0,F,T,I,L,k,N⟩] w (dZ w (.tuple #[xA ⟨0,F,T,I,L,k,N⟩,.bool (cZ ⟨0,F,T,I,L,k,N⟩)])):=by
 have HP:=Hq (show cZ ⟨0,F,T,I,L,k,N⟩=false by simp only[Bool.and_eq_false_iff] at hr;rcases hr with(h|h)|h<;>simp[cZ,h]);have HO:=Hq (λw1=>Oe F T k N false w1 hr);open arZ in exact Iq
theorem Ar (hr:(nC F T&&keyOk k.data.toList&&fO N)=true) (hI:¬0=I):Calls prog 234 #[oz ⟨0,F,T,I,L,k,N⟩] w (dZ w (.tuple #[xA ⟨0,F,T,I,L,k,N⟩,.bool (cZ ⟨0,F,T,I,L,k,N⟩)])):=by
 have HP:=Hq (show cZ ⟨0,F,T,I,L,k,N⟩=false by simp only[aGl] at hr;obtain⟨⟨h1,h2⟩,h3⟩:=hr;simp[cZ,h1,h2,h3,Ne.symm hI]);have HO:=Hq (λw1=>Oe F T k N true w1 hr);have HM:=Hq (λw1=>yU F T k N w1);open arY in exact Iq
theorem yS (F:Int) (T:Int) (L:Int) (k:ByteArray) (N:Int) (w:World) (hr:(nC F T&&keyOk k.data.toList&&fO N)=true) (hL:¬0=L):Calls prog 234 #[oz ⟨0,F,T,0,L,k,N⟩] w (dZ w (.tuple #[xA ⟨0,F,T,0,L,k,N⟩,.bool (cZ ⟨0,F,T,0,L,k,N⟩)])):=by
 have HP:=Hq (show cZ ⟨0,F,T,0,L,k,N⟩=false by simp only[aGl] at hr;obtain⟨⟨h1,h2⟩,h3⟩:=hr;simp[cZ,h1,h2,h3,Ne.symm hL]);have HO:=Hq (λw1=>Oe F T k N true w1 hr);have HM:=Hq (λw1=>yU F T k N w1);open arX in exact Iq
theorem yT (F:Int) (T:Int) (k:ByteArray) (N:Int) (w:World) (hr:(nC F T&&keyOk k.data.toList&&fO N)=true):Calls prog 234 #[oz ⟨0,F,T,0,0,k,N⟩] w (dZ w (.tuple #[xA ⟨0,F,T,0,0,k,N⟩,.bool (cZ ⟨0,F,T,0,0,k,N⟩)])):=by
 have HP:=Hq (show cZ ⟨0,F,T,0,0,k,N⟩=true by simp only[aGl] at hr;obtain⟨⟨h1,h2⟩,h3⟩:=hr;simp[cZ,h1,h2,h3]);have HO:=Hq (λw1=>Oe F T k N true w1 hr);have HM:=Hq (λw1=>yU F T k N w1);open arW in exact Iq
theorem Cu (hr:(nC F T&&fO I&&decide (1<=L)&&decide (L<=I)&&keyOk k.data.toList&&fO N)=false):Calls prog 234 #[oz ⟨1,F,T,I,L,k,N⟩] w (dZ w (.tuple #[xA ⟨1,F,T,I,L,k,N⟩,.bool (cZ ⟨1,F,T,I,L,k,N⟩)])):=by
 have HP:=Hq (show cZ ⟨1,F,T,I,L,k,N⟩=false by simp only[Bool.and_eq_false_iff,aIm] at hr;rcases hr with((((h|h)|h)|h)|h)|h<;>simp[cZ,h]<;>omega);have HO:=Hq (λw1=>aj1 F T I L k N false w1 hr);open arV in exact Iq
theorem Aq (hr:(nC F T&&fO I&&decide (1<=L)&&decide (L<=I)&&keyOk k.data.toList&&fO N)=true):Calls prog 234 #[oz ⟨1,F,T,I,L,k,N⟩] w (dZ w (.tuple #[xA ⟨1,F,T,I,L,k,N⟩,.bool (cZ ⟨1,F,T,I,L,k,N⟩)])):=by
 have HP:=Hq (show cZ ⟨1,F,T,I,L,k,N⟩=true by simp only[aGl,aGR] at hr;obtain⟨⟨⟨⟨⟨h1,h2⟩,h3⟩,h4⟩,h5⟩,h6⟩:=hr;simp[cZ,h1,h2,h3,h4,h5,h6]);have HO:=Hq (λw1=>aj1 F T I L k N true w1 hr);have HM:=Hq (λw1=>YR F T I L k N w1);open arU in exact Iq
theorem Cr (hr:(nC F T&&fO I)=false):Calls prog 234 #[oz ⟨2,F,T,I,L,k,N⟩] w (dZ w (.tuple #[xA ⟨2,F,T,I,L,k,N⟩,.bool (cZ ⟨2,F,T,I,L,k,N⟩)])):=by
 have HP:=Hq (show cZ ⟨2,F,T,I,L,k,N⟩=false by simp only[Bool.and_eq_false_iff] at hr;rcases hr with h|h<;>simp[cZ,h]);have HO:=Hq (λw1=>Pe F T I false w1 hr);open arT in exact Iq
theorem Ao (hr:(nC F T&&fO I)=true) (hL:¬0=L):Calls prog 234 #[oz ⟨2,F,T,I,L,k,N⟩] w (dZ w (.tuple #[xA ⟨2,F,T,I,L,k,N⟩,.bool (cZ ⟨2,F,T,I,L,k,N⟩)])):=by
 have HP:=Hq (show cZ ⟨2,F,T,I,L,k,N⟩=false by simp only[aGl] at hr;obtain⟨h1,h2⟩:=hr;simp[cZ,h1,h2,Ne.symm hL]);have HO:=Hq (λw1=>Pe F T I true w1 hr);have HM:=Hq (λw1=>xD F T I w1);open arS in exact Iq
theorem Al (F:Int) (T:Int) (I:Int) (k:ByteArray) (N:Int) (w:World) (hr:(nC F T&&fO I)=true) (hk:¬k.size=0):Calls prog 234 #[oz ⟨2,F,T,I,0,k,N⟩] w (dZ w (.tuple #[xA ⟨2,F,T,I,0,k,N⟩,.bool (cZ ⟨2,F,T,I,0,k,N⟩)])):=by
 have HP:=Hq (show cZ ⟨2,F,T,I,0,k,N⟩=false by simp only[aGl] at hr;obtain⟨h1,h2⟩:=hr;simp[cZ,h1,h2,hk]);have HO:=Hq (λw1=>Pe F T I true w1 hr);have HM:=Hq (λw1=>xD F T I w1);clear hr;have hne:¬k.toList=[]:=by rw [aG8];intro h;have:=aW k;rw [h] at this;simp at this;omega
 have hne2:¬[]=k.toList:=λh=>hne h.symm
 clear hk;go_in
 go_upto_region 11 with fail;refine wp_at (λV hV=>?_);have hblk:V.heap[w.heap.size]?=some (.cells (bX 2 F T I 0 k N) 98 (0,0)):=by rw [hV,aGv _ _ _ Aac];exact aGg w _
 open aCk in exact Yk5
theorem Eb (F:Int) (T:Int) (I:Int) (N:Int) (w:World) (hr:(nC F T&&fO I)=true) (hN:¬0=N):Calls prog 234 #[oz ⟨2,F,T,I,0,ByteArray.empty,N⟩] w (dZ w (.tuple #[xA ⟨2,F,T,I,0,ByteArray.empty,N⟩,.bool (cZ ⟨2,F,T,I,0,ByteArray.empty,N⟩)])):=by
 have HP:=Hq (show cZ ⟨2,F,T,I,0,ByteArray.empty,N⟩=false by simp only[aGl] at hr;obtain⟨h1,h2⟩:=hr;simp[cZ,h1,h2,Ne.symm hN]);have HO:=Hq (λw1=>Pe F T I true w1 hr);have HM:=Hq (λw1=>xD F T I w1);open arR in exact Iq
theorem Ap (F:Int) (T:Int) (I:Int) (w:World) (hr:(nC F T&&fO I)=true):Calls prog 234 #[oz ⟨2,F,T,I,0,ByteArray.empty,0⟩] w (dZ w (.tuple #[xA ⟨2,F,T,I,0,ByteArray.empty,0⟩,.bool (cZ ⟨2,F,T,I,0,ByteArray.empty,0⟩)])):=by
 have HP:=Hq (show cZ ⟨2,F,T,I,0,ByteArray.empty,0⟩=true by simp only[aGl] at hr;obtain⟨h1,h2⟩:=hr;simp[cZ,h1,h2]);have HO:=Hq (λw1=>Pe F T I true w1 hr);have HM:=Hq (λw1=>xD F T I w1);open arQ in exact Iq
theorem F7 (K F T I L:Int) (k:ByteArray) (N:Int) (w:World) (k0:¬K=0) (k1:¬K=1) (k2:¬K=2):Calls prog 234 #[oz ⟨K,F,T,I,L,k,N⟩] w (dZ w (.tuple #[xA ⟨K,F,T,I,L,k,N⟩,.bool (cZ ⟨K,F,T,I,L,k,N⟩)])):=by
 have HP:=Hq (show cZ ⟨K,F,T,I,L,k,N⟩=false by simp[cZ,k0,k1,k2]);have HV:=Hq (show xA ⟨K,F,T,I,L,k,N⟩= .nilIface by simp[xA,k0,k1,k2]);go_in
 go_wp2_with fail;exact aGn (v:= .tuple #[.nilIface,.bool false]) (by simp[results,results234,go_sem]) rfl ⟨by rw [ah HP,ah HV],((aGs _ _).alloc (aGh _) _).alloc Aac _⟩
theorem YQ (m:Mg) (w:World):Calls prog 234 #[oz m] w (dZ w (.tuple #[xA m,.bool (cZ m)])):=by
 obtain⟨K,F,T,I,L,k,N⟩:=m;by_cases k0:K=0
 .subst k0;cases hr:(nC F T&&keyOk k.data.toList&&fO N)
  .exact Au F T I L k N w hr
  by_cases hI:0=I
  .subst hI;by_cases hL:0=L
   .subst hL;exact yT F T k N w hr
   .exact yS F T L k N w hr hL
  .exact Ar F T I L k N w hr hI
 by_cases k1:K=1
 .subst k1;cases hr:(nC F T&&fO I&&decide (1<=L)&&decide (L<=I)&&keyOk k.data.toList&&fO N)
  .exact Cu F T I L k N w hr
  .exact Aq F T I L k N w hr
 by_cases k2:K=2
 .subst k2;cases hr:(nC F T&&fO I)
  .exact Cr F T I L k N w hr
  by_cases hL:0=L
  .subst hL;by_cases hk:k.size=0
   .obtain rfl:=eq_empty k hk;by_cases hN:0=N
    .subst hN;exact Ap F T I w hr
    .exact Eb F T I N w hr hN
   .exact Al F T I k N w hr hk
  .exact Ao F T I L k N w hr hL
 exact F7 K F T I L k N w k0 k1 k2
theorem Ki (m:Mg) (w:World):Calls prog 208 #[oz m] w (dZ w (.bool (cZ m))):=by
 have HM:=Hq (λw1=>YQ m w1);generalize cZ m=r at *;generalize xA m=v at *;obtain⟨K,F,T,I,L,k,N⟩:=m;go_in
 go_wp2_with fail;refine(HM _).mono ?_;rintro e w1 ⟨rfl,hb1⟩;go_wp2
 go_ret;exact⟨rfl,(ay w _).trans (hb1.mono Aac)⟩
theorem Below.setNew {B i:Nat} {w w':World} {v:Value} (h:Below B w w') (hg:B<=g):Below B w (w'.setCell ⟨g,i,none⟩ v):=
 ⟨h.os,h.tape,h.output,by simpa [World.setCell] using h.size,λk hk=>by
  have hkg:k≠g:=Aaa
  rw [aGx _ _ _ _ hkg]
  exact h.block k hk⟩
theorem uY {w:World} {cs:Array Value} (h:w.heap[g]?=some (.cells cs t (0,0))) (i:Nat):w.frozen? ⟨g,i,none⟩=false:=by unfold World.frozen?;rw [h];simp
theorem lN (w:World) (a b:Obj):((w.alloc a).alloc b).heap[w.heap.size]?=some a/\((w.alloc a).alloc b).heap[w.heap.size+1]?=some b:=by
 have h1:=aK (aGg w a) (ay (w.alloc a) b);have h2:=aGg (w.alloc a) b;rw [show(w.alloc a).heap.size=w.heap.size+1 by simp] at h2;exact⟨h1,h2⟩
theorem jP (w:World) (a b:Obj):Below w.heap.size w ((w.alloc a).alloc b):=(ay w a).alloc Aac b
theorem Eo {w:World} {v0 v1 v2 v3 v4 v5 v6 v7 v8 v9 v10:Value} (h:w.heap[g]?=some (.cells #[v0,v1,v2,v3,v4,v5,v6,v7,v8,v9,v10] t (0,0))):
 w.cell? ⟨g,0,none⟩=some v0/\w.cell? ⟨g,1,none⟩=some v1/\w.cell? ⟨g,2,none⟩=some v2/\w.cell? ⟨g,3,none⟩=some v3/\w.cell? ⟨g,4,none⟩=some v4/\w.cell? ⟨g,5,none⟩=some v5/\w.cell? ⟨g,6,none⟩=some v6/\w.cell? ⟨g,7,none⟩=some v7/\w.cell? ⟨g,8,none⟩=some v8/\w.cell? ⟨g,9,none⟩=some v9/\w.cell? ⟨g,10,none⟩=some v10:=by
 exact aiG
theorem IW (no:Int) (k:ByteArray) (n:Int) (m:Mg) (w:World):Calls prog 173 #[jY ⟨0,no,k,n,m⟩] w (dZ w (.bool (cK ⟨0,no,k,n,m⟩))):=by
 obtain⟨mK,mF,mT,mI,mL,mk,mN⟩:=m;obtain⟨R,hR⟩:∃R,cK ⟨0,no,k,n,⟨mK,mF,mT,mI,mL,mk,mN⟩⟩=R:=⟨_,rfl⟩;rw [hR];have HR:=Hq hR;clear hR;cases hk:keyOk k.data.toList
 .exact akX
 .have HK:=Hq (λw1=>iH k true w1 hk);cases hn:fO n
  .exact ak6
  .open an4 in exact akD
theorem IY (no:Int) (k:ByteArray) (n:Int) (m:Mg) (w:World):Calls prog 173 #[jY ⟨3,no,k,n,m⟩] w (dZ w (.bool (cK ⟨3,no,k,n,m⟩))):=by
 obtain⟨mK,mF,mT,mI,mL,mk,mN⟩:=m;obtain⟨R,hR⟩:∃R,cK ⟨3,no,k,n,⟨mK,mF,mT,mI,mL,mk,mN⟩⟩=R:=⟨_,rfl⟩;rw [hR];have HR:=Hq hR;clear hR;cases hk:keyOk k.data.toList
 .exact akX
 .have HK:=Hq (λw1=>iH k true w1 hk);cases hn:fO n
  .exact ak6
  .open an3 in exact akD
theorem IL (no:Int) (k:ByteArray) (n:Int) (m:Mg) (w:World):Calls prog 173 #[jY ⟨4,no,k,n,m⟩] w (dZ w (.bool (cK ⟨4,no,k,n,m⟩))):=by
 obtain⟨mK,mF,mT,mI,mL,mk,mN⟩:=m;obtain⟨R,hR⟩:∃R,cK ⟨4,no,k,n,⟨mK,mF,mT,mI,mL,mk,mN⟩⟩=R:=⟨_,rfl⟩;rw [hR];have HR:=Hq hR;clear hR;cases hk:keyOk k.data.toList
 .exact akX
 .have HK:=Hq (λw1=>iH k true w1 hk);cases hn:fO n
  .exact ak6
  .open an2 in exact akD
theorem FQ (no:Int) (k:ByteArray) (n:Int) (m:Mg) (w:World):Calls prog 173 #[jY ⟨1,no,k,n,m⟩] w (dZ w (.bool (cK ⟨1,no,k,n,m⟩))):=by
 obtain⟨mK,mF,mT,mI,mL,mk,mN⟩:=m;obtain⟨R,hR⟩:∃R,cK ⟨1,no,k,n,⟨mK,mF,mT,mI,mL,mk,mN⟩⟩=R:=⟨_,rfl⟩;rw [hR];have HR:=Hq hR;clear hR;cases ho:fO no
 .have HO:=Hq (λw1=>aQ no false w1 ho);cases hk:keyOk k.data.toList
  .have HK:=Hq (λw1=>iH k false w1 hk);cases hn:fO n
   .have HN:=Hq (λw1=>aQ n false w1 hn);have HP:=Hq (show R=(false&&false&&false&&lY ⟨mK,mF,mT,mI,mL,mk,mN⟩) by rw [<-ah HR];simp[cK,ho,hk,hn]);exact Tz
   .have HN:=Hq (λw1=>aQ n true w1 hn);have HP:=Hq (show R=(false&&false&&true&&lY ⟨mK,mF,mT,mI,mL,mk,mN⟩) by rw [<-ah HR];simp[cK,ho,hk,hn]);exact Tz
  .have HK:=Hq (λw1=>iH k true w1 hk);cases hn:fO n
   .have HN:=Hq (λw1=>aQ n false w1 hn);have HP:=Hq (show R=(false&&true&&false&&lY ⟨mK,mF,mT,mI,mL,mk,mN⟩) by rw [<-ah HR];simp[cK,ho,hk,hn]);exact Tz
   .have HN:=Hq (λw1=>aQ n true w1 hn);have HP:=Hq (show R=(false&&true&&true&&lY ⟨mK,mF,mT,mI,mL,mk,mN⟩) by rw [<-ah HR];simp[cK,ho,hk,hn]);exact Tz
 .have HO:=Hq (λw1=>aQ no true w1 ho);cases hk:keyOk k.data.toList
  .have HK:=Hq (λw1=>iH k false w1 hk);cases hn:fO n
   .have HN:=Hq (λw1=>aQ n false w1 hn);have HP:=Hq (show R=(true&&false&&false&&lY ⟨mK,mF,mT,mI,mL,mk,mN⟩) by rw [<-ah HR];simp[cK,ho,hk,hn]);exact Tz
   .have HN:=Hq (λw1=>aQ n true w1 hn);have HP:=Hq (show R=(true&&false&&true&&lY ⟨mK,mF,mT,mI,mL,mk,mN⟩) by rw [<-ah HR];simp[cK,ho,hk,hn]);exact Tz
  .have HK:=Hq (λw1=>iH k true w1 hk);cases hn:fO n
   .have HN:=Hq (λw1=>aQ n false w1 hn);have HP:=Hq (show R=(true&&true&&false&&lY ⟨mK,mF,mT,mI,mL,mk,mN⟩) by rw [<-ah HR];simp[cK,ho,hk,hn]);exact Tz
   .have HN:=Hq (λw1=>aQ n true w1 hn);have HP:=Hq (show R=(true&&true&&true&&lY ⟨mK,mF,mT,mI,mL,mk,mN⟩) by rw [<-ah HR];simp[cK,ho,hk,hn]);open atH in exact ag0
theorem Cn (no:Int) (k:ByteArray) (n:Int) (m:Mg) (w:World):Calls prog 173 #[jY ⟨2,no,k,n,m⟩] w (dZ w (.bool (cK ⟨2,no,k,n,m⟩))):=by
 obtain⟨mK,mF,mT,mI,mL,mk,mN⟩:=m;obtain⟨R,hR⟩:∃R,cK ⟨2,no,k,n,⟨mK,mF,mT,mI,mL,mk,mN⟩⟩=R:=⟨_,rfl⟩;rw [hR];have HR:=Hq hR;clear hR;cases ho:fO no
 .have HO:=Hq (λw1=>aQ no false w1 ho);have HP:=Hq (show R=(decide (k.toList=[])&&decide (n=0)&&false&&lY ⟨mK,mF,mT,mI,mL,mk,mN⟩) by rw [<-ah HR];simp[cK,ho]);clear HR;clear ho;go_in
  go_wp2_with (first|(go_at_call_of 169 no;refine(HO _).mono ?_;rintro e w1 ⟨rfl,rfl⟩))
  go_ret;exact⟨aF (by rw [ah HP];simp),by first|exact jP w _ _|exact Below.setNew (jP w _ _) Aaa⟩
 .have HO:=Hq (λw1=>aQ no true w1 ho);have HP:=Hq (show R=(decide (k.toList=[])&&decide (n=0)&&true&&lY ⟨mK,mF,mT,mI,mL,mk,mN⟩) by rw [<-ah HR];simp[cK,ho]);clear HR;clear ho;go_in
  go_upto_region 23 with(first|(go_at_call_of 169 no;refine(HO _).mono ?_;rintro e w1 ⟨rfl,rfl⟩))
  open avB in exact Ws
theorem IX (no:Int) (k:ByteArray) (n:Int) (m:Mg) (w:World):Calls prog 173 #[jY ⟨5,no,k,n,m⟩] w (dZ w (.bool (cK ⟨5,no,k,n,m⟩))):=by
 open aut in exact aha
theorem IV (no:Int) (k:ByteArray) (n:Int) (m:Mg) (w:World):Calls prog 173 #[jY ⟨6,no,k,n,m⟩] w (dZ w (.bool (cK ⟨6,no,k,n,m⟩))):=by
 have HM:=Hq (λw1=>Ki m w1);open avM in exact ahv
theorem IU (K no:Int) (k:ByteArray) (n:Int) (m:Mg) (w:World) (h0:¬K=0) (h1:¬K=1) (h2:¬K=2) (h3:¬K=3) (h4:¬K=4) (h5:¬K=5) (h6:¬K=6):Calls prog 173 #[jY ⟨K,no,k,n,m⟩] w (dZ w (.bool (cK ⟨K,no,k,n,m⟩))):=by
 have HP:=Hq (show cK ⟨K,no,k,n,m⟩=false by simp[cK,h0,h1,h2,h3,h4,h5,h6]);obtain⟨mK,mF,mT,mI,mL,mk,mN⟩:=m;go_in
 go_wp2_with fail;go_ret;exact⟨aF HP.symm,jP w _ _⟩
theorem Qh (o:gW) (w:World):Calls prog 173 #[jY o] w (dZ w (.bool (cK o))):=by
 obtain⟨K,no,k,n,m⟩:=o;by_cases h0:K=0
 .subst h0;exact IW no k n m w
 by_cases h1:K=1
 .subst h1;exact FQ no k n m w
 by_cases h2:K=2
 .subst h2;exact Cn no k n m w
 by_cases h3:K=3
 .subst h3;exact IY no k n m w
 by_cases h4:K=4
 .subst h4;exact IL no k n m w
 by_cases h5:K=5
 .subst h5;exact IX no k n m w
 by_cases h6:K=6
 .subst h6;exact IV no k n m w
 exact IU K no k n m w h0 h1 h2 h3 h4 h5 h6
theorem YE (o:gW) (w:World):Calls prog 229 #[jY o] w (dZ w (.bool (cK o))):=by
 have HO:=Hq (λw1=>Qh o w1);generalize cK o=r at *;obtain⟨K,no,k,n,⟨mK,mF,mT,mI,mL,mk,mN⟩⟩:=o;go_in
 exact aiI
theorem aDG:prog.globalNamed "errors.errorType" =some 0:=Aab
theorem al5:(prog.cutTypes.find? (·.1 == "internal/reflectlite.rtype")).map (·.2)=some 330:=Aab
theorem al1:((List.range 401).filter λt=>prog.rowNamed t [101,114,114,111,114])=[242]:=Aab
theorem ZQ:prog.types.size=401:=Aab
theorem Ym {l:List (String×DataW Unit)} (h:handlesMet prog l W) (hm:("errors.errorType",Rows.laid_errors_errorType)∈l):Handle W:=by
 obtain⟨name,u,ty,e1,e2,e3,e4,e5⟩:=h _ hm;have en:name=[101,114,114,111,114]:=(aHd e1).symm;subst en;obtain rfl:=aHd (al5.symm.trans e2);have hm:ty∈(List.range 401).filter λt=>prog.rowNamed t [101,114,114,111,114]:=aIc.2 ⟨aG7.2 (by rw [<-ZQ];exact e3),e4⟩
 rw [al1] at hm;obtain rfl:=aGA.1 hm;have hh:typeHandle prog 242= .pointer (some ⟨6,242,none⟩):=Aab
 rw [hh] at e5;have:=World.var?_cell aDG e5 0;unfold Handle;simpa using this
theorem Ud:(prog.globals[3]?).map (·.type)=some 242:=Aab
theorem afp:(prog.globals[1]?).map (·.type)=some 242:=Aab
theorem Uc:(prog.globals[2]?).map (·.type)=some 242:=Aab
theorem afo:(prog.globals[4]?).map (·.type)=some 242:=Aab
theorem ab2:(prog.globals[5]?).map (·.type)=some 242:=Aab
theorem Yi:prog.globalNamed "loop.example/g00264/impl.errNoPurses" =some 3:=Aab
theorem alk:prog.globalNamed "loop.example/g00264/impl.errNoKey" =some 1:=Aab
theorem Yh:prog.globalNamed "loop.example/g00264/impl.errNoAmount" =some 2:=Aab
theorem alj:prog.globalNamed "loop.example/g00264/impl.errFewer" =some 4:=Aab
theorem afn:prog.globalNamed "loop.example/g00264/impl.errBeyond" =some 5:=Aab
theorem abI:prog.cellsOf 390=1:=Aab
theorem abJ:prog.cellsOf 9=1:=Aab
theorem Xt: "*" ++ "errors.errorString" = "*errors.errorString" :=Aae
theorem al4 (u:TypeId) (h:prog.typeName? 3 u=some "*errors.errorString"):u=372:=
 typeName_ptr_named (nm:= "errors.errorString") (by rw [Xt];kernel_rfl) Aab Aae u (by rw [Xt];exact h)
theorem Ra {n:String} {text:List UInt8} {r:List (String×DataW Unit)} (h:laidMet prog ((n,.iface "*errors.errorString" (.ptr (.agg [.lit (.string text)])))::r) W) (hg:prog.globalNamed n=some g) (ht:(prog.globals[g]?).map (·.type)=some 242):
 ∃(a:Addr) (s:ByteArray) (c:Array Value) (t:TypeId),W.cell? ⟨g,0,none⟩=some (uJ a)/\W.cell? a=some (.string s)/\s.data.toList=text/\W.heap[a.block]?=some (.cells c t (0,0)):=by
 obtain⟨ps,⟨g0',t0',cs0,f0,p0,q0,hg0',ht0',hv0,hd0,_,e0⟩,hnd,hrows⟩:=h;obtain rfl:=aHd (hg.symm.trans hg0');obtain rfl:=aHd (ht.symm.trans ht0');subst e0;obtain⟨l0⟩:=cs0
 have ok0:∀u v,l0=[.iface u v]->Value.okWide prog W .any 0 u v:=λu v e=>by
  subst e
  exact(hrows g 0 (by simp[MemPlace.row])).2 u v (by simpa using World.var?_cell hg0' hv0 0)
 obtain⟨a0,s0,rfl,hc0,hs0,hz0,rfl⟩:=errorString_of_trod underlying242 al4 underlying372 underlying390 rfl rfl underlying9 abI abJ hd0 ok0;obtain⟨c0,t0,hb0⟩:=(hrows a0.block a0.off (by simp[MemPlace.row])).1;exact⟨a0,s0,c0,t0,by simpa using World.var?_cell hg0' hv0 0,hc0,hs0,hb0⟩
theorem apart {a b:Addr} {s t:ByteArray} (ha:W.cell? a=some (.string s)) (hb:W.cell? b=some (.string t)) (hne:s.data.toList≠t.data.toList):a≠b:=λe=>by
 rw [e,hb] at ha;injection ha with ha
 injection ha with ha
 exact hne (by rw [ha])
theorem abV (h:laidMet prog [("loop.example/g00264/impl.errNoPurses",Rows.laid_loop_example_g00264_impl_errNoPurses),("loop.example/g00264/impl.errNoKey",Rows.laid_loop_example_g00264_impl_errNoKey),("loop.example/g00264/impl.errNoAmount",Rows.laid_loop_example_g00264_impl_errNoAmount),("loop.example/g00264/impl.errFewer",Rows.laid_loop_example_g00264_impl_errFewer),("loop.example/g00264/impl.errBeyond",Rows.laid_loop_example_g00264_impl_errBeyond)] W):∃E,iK W E:=by
 obtain⟨a2,s2,k2,t2,v2,c2,x2,b2⟩:=Ra h Yi Ud;have h1:=h.tail;obtain⟨a0,s0,k0,t0,v0,c0,x0,b0⟩:=Ra h1 alk afp;have h2:=h1.tail;obtain⟨a1,s1,k1,t1,v1,c1,x1,b1⟩:=Ra h2 Yh Uc;have h3:=h2.tail;obtain⟨a3,s3,k3,t3,v3,c3,x3,b3⟩:=Ra h3 alj afo;have h4:=h3.tail;obtain⟨a4,s4,k4,t4,v4,c4,x4,b4⟩:=Ra h4 afn ab2;let E:Nat->Addr:=λi=>if i=3 then a2 else if i=1 then a0 else if i=2 then a1 else if i=4 then a3 else a4
 let T:Nat->ByteArray:=λi=>if i=3 then s2 else if i=1 then s0 else if i=2 then s1 else if i=4 then s3 else s4
 have hT:∀i,(1<=i/\i < 6)->W.cell? (E i)=some (.string (T i)):=λi hi=>by
  have:i=1\/i=2\/i=3\/i=4\/i=5:=Aaa
  rcases this with rfl|rfl|rfl|rfl|rfl
  all_goals first|exact c0|exact c1|exact c2|exact c3|exact c4
 refine⟨E,⟨λi hi=>?_,λi hi=>?_,λi j hi hj hne=>apart (hT i hi) (hT j hj) ?_⟩⟩
 .have:i=1\/i=2\/i=3\/i=4\/i=5:=Aaa
  rcases this with rfl|rfl|rfl|rfl|rfl
  all_goals first|exact v0|exact v1|exact v2|exact v3|exact v4
 .have:i=1\/i=2\/i=3\/i=4\/i=5:=Aaa
  rcases this with rfl|rfl|rfl|rfl|rfl
  all_goals first|exact⟨_,_,b0⟩|exact⟨_,_,b1⟩|exact⟨_,_,b2⟩|exact⟨_,_,b3⟩|exact⟨_,_,b4⟩
 .have hi':i=1\/i=2\/i=3\/i=4\/i=5:=Aaa
  have hj':j=1\/j=2\/j=3\/j=4\/j=5:=Aaa
  rcases hi' with rfl|rfl|rfl|rfl|rfl<;>rcases hj' with rfl|rfl|rfl|rfl|rfl
  all_goals first|exact absurd rfl hne|(simp[T,x0,x1,x2,x3,x4])
theorem uK (h:laidMetH prog Rows.fnExactKeeperCrashRow.laid W):(∃E,iK W E)/\Handle W:=by
 have h':laidMet prog [("loop.example/g00264/impl.errNoPurses",Rows.laid_loop_example_g00264_impl_errNoPurses),("loop.example/g00264/impl.errNoKey",Rows.laid_loop_example_g00264_impl_errNoKey),("loop.example/g00264/impl.errNoAmount",Rows.laid_loop_example_g00264_impl_errNoAmount),("loop.example/g00264/impl.errFewer",Rows.laid_loop_example_g00264_impl_errFewer),("loop.example/g00264/impl.errBeyond",Rows.laid_loop_example_g00264_impl_errBeyond)] W/\handlesMet prog [("errors.errorType",Rows.laid_errors_errorType)] W:=h;exact⟨abV h'.1,Ym h'.2 (aGA.2 rfl)⟩
end Go.Proofs.YtohmklmkjmlpjaaGreatDoor
