/- Parts. -/
import Derived.Test.YtacgbldlonoaaaaGreatDoorRr7
namespace Go.Proofs.YtacgbldlonoaaaaGreatDoor
set_option maxHeartbeats 4000000
set_option maxRecDepth 100000
open Go.RowKit
open Mth
def uZ (m:Mg):Value:=
 if m.K=0 then .iface 154 (.agg #[.int .i64 m.F,.int .i64 m.T,.string m.k,.int .i64 m.N])
 else if m.K=1 then .iface 156 (.agg #[.int .i64 m.F,.int .i64 m.T,.int .i64 m.I,.int .i64 m.L,.string m.k,.int .i64 m.N])
 else if m.K=2 then .iface 158 (.agg #[.int .i64 m.F,.int .i64 m.T,.int .i64 m.I])
 else .nilIface
theorem R6 (v:Value) (w:World):(method 467 154 v "loop.example/g00264/impl.ok").run Tryz.prog w= .ok (297,v) w:=Aab
theorem YZ (v:Value) (w:World):(method 467 156 v "loop.example/g00264/impl.ok").run Tryz.prog w= .ok (298,v) w:=Aab
theorem YX (v:Value) (w:World):(method 467 158 v "loop.example/g00264/impl.ok").run Tryz.prog w= .ok (299,v) w:=Aab
theorem yB (F:Int) (T:Int) (I:Int) (L:Int) (k:ByteArray) (N:Int) (w:World) (hr:(lU F T&&keyOk k.data.toList&&fD N)=false):Calls Tryz.prog 65 #[nS ⟨0,F,T,I,L,k,N⟩] w (eP w (.tuple #[uZ ⟨0,F,T,I,L,k,N⟩,.bool (bX ⟨0,F,T,I,L,k,N⟩)])):=by
 have HP:=Hq (show bX ⟨0,F,T,I,L,k,N⟩=false by simp only[Bool.and_eq_false_iff] at hr;rcases hr with(h|h)|h<;>simp[bX,h]);have HO:=Hq (λw1=>Kq F T k N false w1 hr);open alN in exact EL
theorem yA (F:Int) (T:Int) (I:Int) (L:Int) (k:ByteArray) (N:Int) (w:World) (hr:(lU F T&&keyOk k.data.toList&&fD N)=true) (hI:¬0=I):Calls Tryz.prog 65 #[nS ⟨0,F,T,I,L,k,N⟩] w (eP w (.tuple #[uZ ⟨0,F,T,I,L,k,N⟩,.bool (bX ⟨0,F,T,I,L,k,N⟩)])):=by
 have HP:=Hq (show bX ⟨0,F,T,I,L,k,N⟩=false by simp only[Bool.and_eq_true] at hr;obtain⟨⟨h1,h2⟩,h3⟩:=hr;simp[bX,h1,h2,h3,Ne.symm hI]);have HO:=Hq (λw1=>Kq F T k N true w1 hr);have HM:=Hq (λw1=>wM F T k N w1);open alM in exact EL
theorem wK (F:Int) (T:Int) (L:Int) (k:ByteArray) (N:Int) (w:World) (hr:(lU F T&&keyOk k.data.toList&&fD N)=true) (hL:¬0=L):Calls Tryz.prog 65 #[nS ⟨0,F,T,0,L,k,N⟩] w (eP w (.tuple #[uZ ⟨0,F,T,0,L,k,N⟩,.bool (bX ⟨0,F,T,0,L,k,N⟩)])):=by
 have HP:=Hq (show bX ⟨0,F,T,0,L,k,N⟩=false by simp only[Bool.and_eq_true] at hr;obtain⟨⟨h1,h2⟩,h3⟩:=hr;simp[bX,h1,h2,h3,Ne.symm hL]);have HO:=Hq (λw1=>Kq F T k N true w1 hr);have HM:=Hq (λw1=>wM F T k N w1);open alL in exact EL
theorem wL (F:Int) (T:Int) (k:ByteArray) (N:Int) (w:World) (hr:(lU F T&&keyOk k.data.toList&&fD N)=true):Calls Tryz.prog 65 #[nS ⟨0,F,T,0,0,k,N⟩] w (eP w (.tuple #[uZ ⟨0,F,T,0,0,k,N⟩,.bool (bX ⟨0,F,T,0,0,k,N⟩)])):=by
 have HP:=Hq (show bX ⟨0,F,T,0,0,k,N⟩=true by simp only[Bool.and_eq_true] at hr;obtain⟨⟨h1,h2⟩,h3⟩:=hr;simp[bX,h1,h2,h3]);have HO:=Hq (λw1=>Kq F T k N true w1 hr);have HM:=Hq (λw1=>wM F T k N w1);open alK in exact EL
theorem zX (F:Int) (T:Int) (I:Int) (L:Int) (k:ByteArray) (N:Int) (w:World) (hr:(lU F T&&fD I&&decide (1<=L)&&decide (L<=I)&&keyOk k.data.toList&&fD N)=false):Calls Tryz.prog 65 #[nS ⟨1,F,T,I,L,k,N⟩] w (eP w (.tuple #[uZ ⟨1,F,T,I,L,k,N⟩,.bool (bX ⟨1,F,T,I,L,k,N⟩)])):=by
 have HP:=Hq (show bX ⟨1,F,T,I,L,k,N⟩=false by simp only[Bool.and_eq_false_iff,decide_eq_false_iff_not] at hr;rcases hr with((((h|h)|h)|h)|h)|h<;>simp[bX,h]<;>omega);have HO:=Hq (λw1=>aeP F T I L k N false w1 hr);open alJ in exact EL
theorem yx (F:Int) (T:Int) (I:Int) (L:Int) (k:ByteArray) (N:Int) (w:World) (hr:(lU F T&&fD I&&decide (1<=L)&&decide (L<=I)&&keyOk k.data.toList&&fD N)=true):Calls Tryz.prog 65 #[nS ⟨1,F,T,I,L,k,N⟩] w (eP w (.tuple #[uZ ⟨1,F,T,I,L,k,N⟩,.bool (bX ⟨1,F,T,I,L,k,N⟩)])):=by
 have HP:=Hq (show bX ⟨1,F,T,I,L,k,N⟩=true by simp only[Bool.and_eq_true,decide_eq_true_iff] at hr;obtain⟨⟨⟨⟨⟨h1,h2⟩,h3⟩,h4⟩,h5⟩,h6⟩:=hr;simp[bX,h1,h2,h3,h4,h5,h6]);have HO:=Hq (λw1=>aeP F T I L k N true w1 hr);have HM:=Hq (λw1=>Ul F T I L k N w1);open alI in exact EL
theorem zW (F:Int) (T:Int) (I:Int) (L:Int) (k:ByteArray) (N:Int) (w:World) (hr:(lU F T&&fD I)=false):Calls Tryz.prog 65 #[nS ⟨2,F,T,I,L,k,N⟩] w (eP w (.tuple #[uZ ⟨2,F,T,I,L,k,N⟩,.bool (bX ⟨2,F,T,I,L,k,N⟩)])):=by
 have HP:=Hq (show bX ⟨2,F,T,I,L,k,N⟩=false by simp only[Bool.and_eq_false_iff] at hr;rcases hr with h|h<;>simp[bX,h]);have HO:=Hq (λw1=>Lv F T I false w1 hr);open alH in exact EL
theorem yu (F:Int) (T:Int) (I:Int) (L:Int) (k:ByteArray) (N:Int) (w:World) (hr:(lU F T&&fD I)=true) (hL:¬0=L):Calls Tryz.prog 65 #[nS ⟨2,F,T,I,L,k,N⟩] w (eP w (.tuple #[uZ ⟨2,F,T,I,L,k,N⟩,.bool (bX ⟨2,F,T,I,L,k,N⟩)])):=by
 have HP:=Hq (show bX ⟨2,F,T,I,L,k,N⟩=false by simp only[Bool.and_eq_true] at hr;obtain⟨h1,h2⟩:=hr;simp[bX,h1,h2,Ne.symm hL]);have HO:=Hq (λw1=>Lv F T I true w1 hr);have HM:=Hq (λw1=>vw F T I w1);open alG in exact EL
theorem yt (F:Int) (T:Int) (I:Int) (k:ByteArray) (N:Int) (w:World) (hr:(lU F T&&fD I)=true) (hk:¬k.size=0):Calls Tryz.prog 65 #[nS ⟨2,F,T,I,0,k,N⟩] w (eP w (.tuple #[uZ ⟨2,F,T,I,0,k,N⟩,.bool (bX ⟨2,F,T,I,0,k,N⟩)])):=by
 have HP:=Hq (show bX ⟨2,F,T,I,0,k,N⟩=false by simp only[Bool.and_eq_true] at hr;obtain⟨h1,h2⟩:=hr;simp[bX,h1,h2,hk]);have HO:=Hq (λw1=>Lv F T I true w1 hr);have HM:=Hq (λw1=>vw F T I w1);clear hr;have hne:¬k.toList=[]:=by rw [ByteArray.toList_eq];intro h;have:=bn k;rw [h] at this;simp at this;omega
 have hne2:¬[]=k.toList:=λh=>hne h.symm
 clear hk;go_enter Tryz.func65,Tryz.ntmps65
 go_upto_region 11 with fail;refine wp_at (λV hV=>?_);have hblk:V.heap[w.heap.size]?=some (.cells (bJ 2 F T I 0 k N) 32 (0,0)):=by rw [hV,Below.heap_alloc _ _ _ Aac];exact heap_alloc_new w _
 open auQ in exact Yr6
theorem BH (F:Int) (T:Int) (I:Int) (N:Int) (w:World) (hr:(lU F T&&fD I)=true) (hN:¬0=N):Calls Tryz.prog 65 #[nS ⟨2,F,T,I,0,ByteArray.empty,N⟩] w (eP w (.tuple #[uZ ⟨2,F,T,I,0,ByteArray.empty,N⟩,.bool (bX ⟨2,F,T,I,0,ByteArray.empty,N⟩)])):=by
 have HP:=Hq (show bX ⟨2,F,T,I,0,ByteArray.empty,N⟩=false by simp only[Bool.and_eq_true] at hr;obtain⟨h1,h2⟩:=hr;simp[bX,h1,h2,Ne.symm hN]);have HO:=Hq (λw1=>Lv F T I true w1 hr);have HM:=Hq (λw1=>vw F T I w1);open alF in exact EL
theorem yw (F:Int) (T:Int) (I:Int) (w:World) (hr:(lU F T&&fD I)=true):Calls Tryz.prog 65 #[nS ⟨2,F,T,I,0,ByteArray.empty,0⟩] w (eP w (.tuple #[uZ ⟨2,F,T,I,0,ByteArray.empty,0⟩,.bool (bX ⟨2,F,T,I,0,ByteArray.empty,0⟩)])):=by
 have HP:=Hq (show bX ⟨2,F,T,I,0,ByteArray.empty,0⟩=true by simp only[Bool.and_eq_true] at hr;obtain⟨h1,h2⟩:=hr;simp[bX,h1,h2]);have HO:=Hq (λw1=>Lv F T I true w1 hr);have HM:=Hq (λw1=>vw F T I w1);open alE in exact EL
theorem Dz (K F T I L:Int) (k:ByteArray) (N:Int) (w:World) (k0:¬K=0) (k1:¬K=1) (k2:¬K=2):Calls Tryz.prog 65 #[nS ⟨K,F,T,I,L,k,N⟩] w (eP w (.tuple #[uZ ⟨K,F,T,I,L,k,N⟩,.bool (bX ⟨K,F,T,I,L,k,N⟩)])):=by
 have HP:=Hq (show bX ⟨K,F,T,I,L,k,N⟩=false by simp[bX,k0,k1,k2]);have HV:=Hq (show uZ ⟨K,F,T,I,L,k,N⟩= .nilIface by simp[uZ,k0,k1,k2]);go_enter Tryz.func65,Tryz.ntmps65
 go_wp2_with fail;exact bodyPost_ret (v:= .tuple #[.nilIface,.bool false]) (by simp[results,Tryz.results65,go_sem]) rfl ⟨by rw [ah HP,ah HV],((Below.refl _ _).alloc (Nat.le_refl _) _).alloc Aac _⟩
theorem messageOf (m:Mg) (w:World):Calls Tryz.prog 65 #[nS m] w (eP w (.tuple #[uZ m,.bool (bX m)])):=by
 obtain⟨K,F,T,I,L,k,N⟩:=m;by_cases k0:K=0
 .subst k0;cases hr:(lU F T&&keyOk k.data.toList&&fD N)
  .exact yB F T I L k N w hr
  by_cases hI:0=I
  .subst hI;by_cases hL:0=L
   .subst hL;exact wL F T k N w hr
   .exact wK F T L k N w hr hL
  .exact yA F T I L k N w hr hI
 by_cases k1:K=1
 .subst k1;cases hr:(lU F T&&fD I&&decide (1<=L)&&decide (L<=I)&&keyOk k.data.toList&&fD N)
  .exact zX F T I L k N w hr
  .exact yx F T I L k N w hr
 by_cases k2:K=2
 .subst k2;cases hr:(lU F T&&fD I)
  .exact zW F T I L k N w hr
  by_cases hL:0=L
  .subst hL;by_cases hk:k.size=0
   .obtain rfl:=eq_empty k hk;by_cases hN:0=N
    .subst hN;exact yw F T I w hr
    .exact BH F T I N w hr hN
   .exact yt F T I k N w hr hk
  .exact yu F T I L k N w hr hL
 exact Dz K F T I L k N w k0 k1 k2
theorem He (m:Mg) (w:World):Calls Tryz.prog 20 #[nS m] w (eP w (.bool (bX m))):=by
 have HM:=Hq (λw1=>messageOf m w1);generalize bX m=r at *;generalize uZ m=v at *;obtain⟨K,F,T,I,L,k,N⟩:=m;go_enter Tryz.func20,Tryz.ntmps20
 go_wp2_with fail;refine(HM _).mono ?_;rintro e w1 ⟨rfl,hb1⟩;go_wp2
 go_ret;exact⟨rfl,(aj w _).trans (hb1.mono Aac)⟩
theorem BM (K F T I L:Int) (k:ByteArray) (N:Int) (w:World) (_hs:k.size<=maxLen) (hr:lU F T=false):Calls Tryz.prog 113 #[nS ⟨K,F,T,I,L,k,N⟩] w (eP w (.bool (bX ⟨K,F,T,I,L,k,N⟩))):=by
 cases h1:rF F
 case' false=>
  have HP:=Hq (show bX ⟨K,F,T,I,L,k,N⟩=false by simp[bX,lU,h1])
  have H1:=Hq (λw1=>l04Node F false w1 h1)
  clear h1 hr
  go_enter Tryz.func113,Tryz.ntmps113
  go_wp2_with (first|(go_at_call_of 134 F;refine(H1 _).mono ?_;rintro e w1 ⟨rfl,rfl⟩))
  go_ret
  exact⟨aD HP.symm,aj w _⟩
 have H1:=Hq (λw1=>l04Node F true w1 h1);cases h2:rF T
 case' false=>
  have HP:=Hq (show bX ⟨K,F,T,I,L,k,N⟩=false by simp[bX,lU,h2])
  have H2:=Hq (λw1=>l04Node T false w1 h2)
  clear h1 h2 hr
  go_enter Tryz.func113,Tryz.ntmps113
  go_wp2_with (first|(go_at_call_of 134 F;refine(H1 _).mono ?_;rintro e w1 ⟨rfl,rfl⟩)|(go_at_call_of 134 T;refine(H2 _).mono ?_;rintro e w1 ⟨rfl,rfl⟩))
  go_ret
  exact⟨aD HP.symm,aj w _⟩
 have H2:=Hq (λw1=>l04Node T true w1 h2)
 have hft:F=T:=by
  rcases Decidable.em (F=T) with h|h
  .exact h
  .simp[lU,h1,h2,h] at hr
 have HP:=Hq (show bX ⟨K,F,T,I,L,k,N⟩=false by simp[bX,lU,hft]);clear h1 h2 hr;subst hft;go_enter Tryz.func113,Tryz.ntmps113
 go_wp2_with (first|(go_at_call_of 134 F;refine(H1 _).mono ?_;rintro e w1 ⟨rfl,rfl⟩))
 exact Tn
theorem Ef (_K F T I L:Int) (k:ByteArray) (N:Int) (w:World) (hs:k.size<=maxLen) (hr:lU F T=true):Calls Tryz.prog 113 #[nS ⟨0,F,T,I,L,k,N⟩] w (eP w (.bool (bX ⟨0,F,T,I,L,k,N⟩))):=by
 open aiL in exact aaJ
theorem FT (_K F T I L:Int) (k:ByteArray) (N:Int) (w:World) (hs:k.size<=maxLen) (hr:lU F T=true):Calls Tryz.prog 113 #[nS ⟨1,F,T,I,L,k,N⟩] w (eP w (.bool (bX ⟨1,F,T,I,L,k,N⟩))):=by
 open aiK in exact aaJ
theorem FQ (_K F T I L:Int) (k:ByteArray) (N:Int) (w:World) (hs:k.size<=maxLen) (hr:lU F T=true):Calls Tryz.prog 113 #[nS ⟨2,F,T,I,L,k,N⟩] w (eP w (.bool (bX ⟨2,F,T,I,L,k,N⟩))):=by
 open aiJ in exact aaJ
theorem Ee (K F T I L:Int) (k:ByteArray) (N:Int) (w:World) (_hs:k.size<=maxLen) (hr:lU F T=true) (k0:¬K=0) (k1:¬K=1) (k2:¬K=2):Calls Tryz.prog 113 #[nS ⟨K,F,T,I,L,k,N⟩] w (eP w (.bool (bX ⟨K,F,T,I,L,k,N⟩))):=by
 open aiI in exact aaJ
theorem jV (m:Mg) (w:World) (hs:m.k.size<=maxLen):Calls Tryz.prog 113 #[nS m] w (eP w (.bool (bX m))):=by
 obtain⟨K,F,T,I,L,k,N⟩:=m;cases hr:lU F T
 .exact BM K F T I L k N w hs hr
 by_cases k0:K=0
 .subst k0;exact Ef 0 F T I L k N w hs hr
 by_cases k1:K=1
 .subst k1;exact FT 0 F T I L k N w hs hr
 by_cases k2:K=2
 .subst k2;exact FQ 0 F T I L k N w hs hr
 exact Ee K F T I L k N w hs hr k0 k1 k2
theorem FX (no:Int) (k:ByteArray) (n:Int) (m:Mg) (w:World) (hs:k.size<=maxLen):Calls Tryz.prog 36 #[jB ⟨0,no,k,n,m⟩] w (eP w (.bool (bV ⟨0,no,k,n,m⟩))):=by
 obtain⟨mK,mF,mT,mI,mL,mk,mN⟩:=m;obtain⟨R,hR⟩:∃R,bV ⟨0,no,k,n,⟨mK,mF,mT,mI,mL,mk,mN⟩⟩=R:=⟨_,rfl⟩;exact afx
theorem FZ (no:Int) (k:ByteArray) (n:Int) (m:Mg) (w:World) (hs:k.size<=maxLen):Calls Tryz.prog 36 #[jB ⟨3,no,k,n,m⟩] w (eP w (.bool (bV ⟨3,no,k,n,m⟩))):=by
 obtain⟨mK,mF,mT,mI,mL,mk,mN⟩:=m;obtain⟨R,hR⟩:∃R,bV ⟨3,no,k,n,⟨mK,mF,mT,mI,mL,mk,mN⟩⟩=R:=⟨_,rfl⟩;exact afx
theorem FU (no:Int) (k:ByteArray) (n:Int) (m:Mg) (w:World) (hs:k.size<=maxLen):Calls Tryz.prog 36 #[jB ⟨4,no,k,n,m⟩] w (eP w (.bool (bV ⟨4,no,k,n,m⟩))):=by
 obtain⟨mK,mF,mT,mI,mL,mk,mN⟩:=m;obtain⟨R,hR⟩:∃R,bV ⟨4,no,k,n,⟨mK,mF,mT,mI,mL,mk,mN⟩⟩=R:=⟨_,rfl⟩;exact afx
theorem Ej (no:Int) (k:ByteArray) (n:Int) (m:Mg) (w:World) (hs:k.size<=maxLen):Calls Tryz.prog 36 #[jB ⟨1,no,k,n,m⟩] w (eP w (.bool (bV ⟨1,no,k,n,m⟩))):=by
 obtain⟨mK,mF,mT,mI,mL,mk,mN⟩:=m;obtain⟨R,hR⟩:∃R,bV ⟨1,no,k,n,⟨mK,mF,mT,mI,mL,mk,mN⟩⟩=R:=⟨_,rfl⟩;rw [hR];have HR:=Hq hR;clear hR;cases hk:keyOk k.data.toList
 .have HK:=Hq (λw1=>lK k false w1 hs hk);cases hn:fD n
  .have HN:=Hq (λw1=>l04Some n false w1 hn);cases ho:fD no
   .have HO:=Hq (λw1=>l04Some no false w1 ho);have HP:=Hq (show R=(false&&false&&false&&kX ⟨mK,mF,mT,mI,mL,mk,mN⟩) by rw [<-ah HR];simp[bV,hk,hn,ho]);exact Lu
   .have HO:=Hq (λw1=>l04Some no true w1 ho);have HP:=Hq (show R=(false&&false&&true&&kX ⟨mK,mF,mT,mI,mL,mk,mN⟩) by rw [<-ah HR];simp[bV,hk,hn,ho]);exact Lu
  .have HN:=Hq (λw1=>l04Some n true w1 hn);cases ho:fD no
   .have HO:=Hq (λw1=>l04Some no false w1 ho);have HP:=Hq (show R=(false&&true&&false&&kX ⟨mK,mF,mT,mI,mL,mk,mN⟩) by rw [<-ah HR];simp[bV,hk,hn,ho]);exact Lu
   .have HO:=Hq (λw1=>l04Some no true w1 ho);have HP:=Hq (show R=(false&&true&&true&&kX ⟨mK,mF,mT,mI,mL,mk,mN⟩) by rw [<-ah HR];simp[bV,hk,hn,ho]);exact Lu
 .have HK:=Hq (λw1=>lK k true w1 hs hk);cases hn:fD n
  .have HN:=Hq (λw1=>l04Some n false w1 hn);cases ho:fD no
   .have HO:=Hq (λw1=>l04Some no false w1 ho);have HP:=Hq (show R=(true&&false&&false&&kX ⟨mK,mF,mT,mI,mL,mk,mN⟩) by rw [<-ah HR];simp[bV,hk,hn,ho]);exact Lu
   .have HO:=Hq (λw1=>l04Some no true w1 ho);have HP:=Hq (show R=(true&&false&&true&&kX ⟨mK,mF,mT,mI,mL,mk,mN⟩) by rw [<-ah HR];simp[bV,hk,hn,ho]);exact Lu
  .have HN:=Hq (λw1=>l04Some n true w1 hn);cases ho:fD no
   .have HO:=Hq (λw1=>l04Some no false w1 ho);have HP:=Hq (show R=(true&&true&&false&&kX ⟨mK,mF,mT,mI,mL,mk,mN⟩) by rw [<-ah HR];simp[bV,hk,hn,ho]);exact Lu
   .have HO:=Hq (λw1=>l04Some no true w1 ho);have HP:=Hq (show R=(true&&true&&true&&kX ⟨mK,mF,mT,mI,mL,mk,mN⟩) by rw [<-ah HR];simp[bV,hk,hn,ho]);exact Lu
theorem Ai (no:Int) (k:ByteArray) (n:Int) (m:Mg) (w:World) (_hs:k.size<=maxLen):Calls Tryz.prog 36 #[jB ⟨2,no,k,n,m⟩] w (eP w (.bool (bV ⟨2,no,k,n,m⟩))):=by
 obtain⟨mK,mF,mT,mI,mL,mk,mN⟩:=m;obtain⟨R,hR⟩:∃R,bV ⟨2,no,k,n,⟨mK,mF,mT,mI,mL,mk,mN⟩⟩=R:=⟨_,rfl⟩;rw [hR];have HR:=Hq hR;clear hR;cases ho:fD no
 .have HO:=Hq (λw1=>l04Some no false w1 ho);have HP:=Hq (show R=(decide (k.toList=[])&&decide (n=0)&&false&&kX ⟨mK,mF,mT,mI,mL,mk,mN⟩) by rw [<-ah HR];simp[bV,ho]);exact asM
 .have HO:=Hq (λw1=>l04Some no true w1 ho);have HP:=Hq (show R=(decide (k.toList=[])&&decide (n=0)&&true&&kX ⟨mK,mF,mT,mI,mL,mk,mN⟩) by rw [<-ah HR];simp[bV,ho]);exact asM
theorem FY (no:Int) (k:ByteArray) (n:Int) (m:Mg) (w:World) (_hs:k.size<=maxLen):Calls Tryz.prog 36 #[jB ⟨5,no,k,n,m⟩] w (eP w (.bool (bV ⟨5,no,k,n,m⟩))):=by
 open anI in exact acE
theorem FW (no:Int) (k:ByteArray) (n:Int) (m:Mg) (w:World) (hm:m.k.size<=maxLen):Calls Tryz.prog 36 #[jB ⟨6,no,k,n,m⟩] w (eP w (.bool (bV ⟨6,no,k,n,m⟩))):=by
 have HM:=Hq (λw1=>jV m w1 hm);open aoU in exact ac1
theorem FV (K no:Int) (k:ByteArray) (n:Int) (m:Mg) (w:World) (h0:¬K=0) (h1:¬K=1) (h2:¬K=2) (h3:¬K=3) (h4:¬K=4) (h5:¬K=5) (h6:¬K=6):Calls Tryz.prog 36 #[jB ⟨K,no,k,n,m⟩] w (eP w (.bool (bV ⟨K,no,k,n,m⟩))):=by
 have HP:=Hq (show bV ⟨K,no,k,n,m⟩=false by simp[bV,h0,h1,h2,h3,h4,h5,h6]);obtain⟨mK,mF,mT,mI,mL,mk,mN⟩:=m;go_enter Tryz.func36,Tryz.ntmps36
 go_wp2_with fail;exact Tn
theorem jf (o:gM) (w:World) (hs:o.k.size<=maxLen) (hm:o.m.k.size<=maxLen):Calls Tryz.prog 36 #[jB o] w (eP w (.bool (bV o))):=by
 obtain⟨K,no,k,n,m⟩:=o;by_cases h0:K=0
 .subst h0;exact FX no k n m w hs
 by_cases h1:K=1
 .subst h1;exact Ej no k n m w hs
 by_cases h2:K=2
 .subst h2;exact Ai no k n m w hs
 by_cases h3:K=3
 .subst h3;exact FZ no k n m w hs
 by_cases h4:K=4
 .subst h4;exact FU no k n m w hs
 by_cases h5:K=5
 .subst h5;exact FY no k n m w hs
 by_cases h6:K=6
 .subst h6;exact FW no k n m w hm
 exact FV K no k n m w h0 h1 h2 h3 h4 h5 h6
end Go.Proofs.YtacgbldlonoaaaaGreatDoor
