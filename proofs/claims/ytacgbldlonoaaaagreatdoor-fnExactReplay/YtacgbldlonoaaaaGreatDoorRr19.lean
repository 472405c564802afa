/- Parts. -/
import Derived.Test.YtacgbldlonoaaaaGreatDoorRr11
namespace Go.Proofs.YtacgbldlonoaaaaGreatDoor
set_option maxHeartbeats 4000000
set_option maxRecDepth 100000
open Go.RowKit
open Mth
theorem Below.setNew {B g i:Nat} {w w':World} {v:Value} (h:Below B w w') (hg:B<=g):Below B w (w'.setCell ⟨g,i,none⟩ v):=
 ⟨h.os,h.tape,h.output,by simpa [World.setCell] using h.size,λk hk=>by
  have hkg:k≠g:=Aaa
  rw [Below.heap_setCell _ _ _ _ hkg]
  exact h.block k hk⟩
theorem sD {w:World} {g:Nat} {cs:Array Value} {t:TypeId} (h:w.heap[g]?=some (.cells cs t (0,0))) (i:Nat):w.frozen? ⟨g,i,none⟩=false:=by unfold World.frozen?;rw [h];simp
theorem kH (w:World) (a b:Obj):((w.alloc a).alloc b).heap[w.heap.size]?=some a/\((w.alloc a).alloc b).heap[w.heap.size+1]?=some b:=by
 have h1:=aI (heap_alloc_new w a) (aj (w.alloc a) b);have h2:=heap_alloc_new (w.alloc a) b;rw [show(w.alloc a).heap.size=w.heap.size+1 by simp] at h2;exact⟨h1,h2⟩
theorem jg (w:World) (a b:Obj):Below w.heap.size w ((w.alloc a).alloc b):=(aj w a).alloc Aac b
theorem Cg {w:World} {g:Nat} {v0 v1 v2 v3 v4 v5 v6 v7 v8 v9 v10:Value} {t:TypeId} (h:w.heap[g]?=some (.cells #[v0,v1,v2,v3,v4,v5,v6,v7,v8,v9,v10] t (0,0))):
 w.cell? ⟨g,0,none⟩=some v0/\w.cell? ⟨g,1,none⟩=some v1/\w.cell? ⟨g,2,none⟩=some v2/\w.cell? ⟨g,3,none⟩=some v3/\w.cell? ⟨g,4,none⟩=some v4/\w.cell? ⟨g,5,none⟩=some v5/\w.cell? ⟨g,6,none⟩=some v6/\w.cell? ⟨g,7,none⟩=some v7/\w.cell? ⟨g,8,none⟩=some v8/\w.cell? ⟨g,9,none⟩=some v9/\w.cell? ⟨g,10,none⟩=some v10:=by
 exact as8
theorem Fh (no:Int) (k:ByteArray) (n:Int) (m:Mg) (w:World):Calls Tryz.prog 105 #[jB ⟨0,no,k,n,m⟩] w (eP w (.bool (bV ⟨0,no,k,n,m⟩))):=by
 obtain⟨mK,mF,mT,mI,mL,mk,mN⟩:=m;obtain⟨R,hR⟩:∃R,bV ⟨0,no,k,n,⟨mK,mF,mT,mI,mL,mk,mN⟩⟩=R:=⟨_,rfl⟩;rw [hR];have HR:=Hq hR;clear hR;cases hk:keyOk k.data.toList
 .exact afC
 .have HK:=Hq (λw1=>gV k true w1 hk);cases hn:fD n
  .exact afG
  .open ait in exact afi
theorem Fp (no:Int) (k:ByteArray) (n:Int) (m:Mg) (w:World):Calls Tryz.prog 105 #[jB ⟨3,no,k,n,m⟩] w (eP w (.bool (bV ⟨3,no,k,n,m⟩))):=by
 obtain⟨mK,mF,mT,mI,mL,mk,mN⟩:=m;obtain⟨R,hR⟩:∃R,bV ⟨3,no,k,n,⟨mK,mF,mT,mI,mL,mk,mN⟩⟩=R:=⟨_,rfl⟩;rw [hR];have HR:=Hq hR;clear hR;cases hk:keyOk k.data.toList
 .exact afC
 .have HK:=Hq (λw1=>gV k true w1 hk);cases hn:fD n
  .exact afG
  .open ais in exact afi
theorem E9 (no:Int) (k:ByteArray) (n:Int) (m:Mg) (w:World):Calls Tryz.prog 105 #[jB ⟨4,no,k,n,m⟩] w (eP w (.bool (bV ⟨4,no,k,n,m⟩))):=by
 obtain⟨mK,mF,mT,mI,mL,mk,mN⟩:=m;obtain⟨R,hR⟩:∃R,bV ⟨4,no,k,n,⟨mK,mF,mT,mI,mL,mk,mN⟩⟩=R:=⟨_,rfl⟩;rw [hR];have HR:=Hq hR;clear hR;cases hk:keyOk k.data.toList
 .exact afC
 .have HK:=Hq (λw1=>gV k true w1 hk);cases hn:fD n
  .exact afG
  .open air in exact afi
theorem Dr (no:Int) (k:ByteArray) (n:Int) (m:Mg) (w:World):Calls Tryz.prog 105 #[jB ⟨1,no,k,n,m⟩] w (eP w (.bool (bV ⟨1,no,k,n,m⟩))):=by
 obtain⟨mK,mF,mT,mI,mL,mk,mN⟩:=m;obtain⟨R,hR⟩:∃R,bV ⟨1,no,k,n,⟨mK,mF,mT,mI,mL,mk,mN⟩⟩=R:=⟨_,rfl⟩;rw [hR];have HR:=Hq hR;clear hR;cases ho:fD no
 .have HO:=Hq (λw1=>isSomeAmount no false w1 ho);cases hk:keyOk k.data.toList
  .have HK:=Hq (λw1=>gV k false w1 hk);cases hn:fD n
   .have HN:=Hq (λw1=>isSomeAmount n false w1 hn);have HP:=Hq (show R=(false&&false&&false&&kX ⟨mK,mF,mT,mI,mL,mk,mN⟩) by rw [<-ah HR];simp[bV,ho,hk,hn]);exact Pt
   .have HN:=Hq (λw1=>isSomeAmount n true w1 hn);have HP:=Hq (show R=(false&&false&&true&&kX ⟨mK,mF,mT,mI,mL,mk,mN⟩) by rw [<-ah HR];simp[bV,ho,hk,hn]);exact Pt
  .have HK:=Hq (λw1=>gV k true w1 hk);cases hn:fD n
   .have HN:=Hq (λw1=>isSomeAmount n false w1 hn);have HP:=Hq (show R=(false&&true&&false&&kX ⟨mK,mF,mT,mI,mL,mk,mN⟩) by rw [<-ah HR];simp[bV,ho,hk,hn]);exact Pt
   .have HN:=Hq (λw1=>isSomeAmount n true w1 hn);have HP:=Hq (show R=(false&&true&&true&&kX ⟨mK,mF,mT,mI,mL,mk,mN⟩) by rw [<-ah HR];simp[bV,ho,hk,hn]);exact Pt
 .have HO:=Hq (λw1=>isSomeAmount no true w1 ho);cases hk:keyOk k.data.toList
  .have HK:=Hq (λw1=>gV k false w1 hk);cases hn:fD n
   .have HN:=Hq (λw1=>isSomeAmount n false w1 hn);have HP:=Hq (show R=(true&&false&&false&&kX ⟨mK,mF,mT,mI,mL,mk,mN⟩) by rw [<-ah HR];simp[bV,ho,hk,hn]);exact Pt
   .have HN:=Hq (λw1=>isSomeAmount n true w1 hn);have HP:=Hq (show R=(true&&false&&true&&kX ⟨mK,mF,mT,mI,mL,mk,mN⟩) by rw [<-ah HR];simp[bV,ho,hk,hn]);exact Pt
  .have HK:=Hq (λw1=>gV k true w1 hk);cases hn:fD n
   .have HN:=Hq (λw1=>isSomeAmount n false w1 hn);have HP:=Hq (show R=(true&&true&&false&&kX ⟨mK,mF,mT,mI,mL,mk,mN⟩) by rw [<-ah HR];simp[bV,ho,hk,hn]);exact Pt
   .have HN:=Hq (λw1=>isSomeAmount n true w1 hn);have HP:=Hq (show R=(true&&true&&true&&kX ⟨mK,mF,mT,mI,mL,mk,mN⟩) by rw [<-ah HR];simp[bV,ho,hk,hn]);open ani in exact acz
theorem zU (no:Int) (k:ByteArray) (n:Int) (m:Mg) (w:World):Calls Tryz.prog 105 #[jB ⟨2,no,k,n,m⟩] w (eP w (.bool (bV ⟨2,no,k,n,m⟩))):=by
 obtain⟨mK,mF,mT,mI,mL,mk,mN⟩:=m;obtain⟨R,hR⟩:∃R,bV ⟨2,no,k,n,⟨mK,mF,mT,mI,mL,mk,mN⟩⟩=R:=⟨_,rfl⟩;rw [hR];have HR:=Hq hR;clear hR;cases ho:fD no
 .have HO:=Hq (λw1=>isSomeAmount no false w1 ho);have HP:=Hq (show R=(decide (k.toList=[])&&decide (n=0)&&false&&kX ⟨mK,mF,mT,mI,mL,mk,mN⟩) by rw [<-ah HR];simp[bV,ho]);clear HR;clear ho;go_enter Tryz.func105,Tryz.ntmps105
  go_wp2_with (first|(go_at_call_of 54 no;refine(HO _).mono ?_;rintro e w1 ⟨rfl,rfl⟩))
  go_ret;exact⟨aD (by rw [ah HP];simp),by first|exact jg w _ _|exact Below.setNew (jg w _ _) Aaa⟩
 .have HO:=Hq (λw1=>isSomeAmount no true w1 ho);have HP:=Hq (show R=(decide (k.toList=[])&&decide (n=0)&&true&&kX ⟨mK,mF,mT,mI,mL,mk,mN⟩) by rw [<-ah HR];simp[bV,ho]);clear HR;clear ho;go_enter Tryz.func105,Tryz.ntmps105
  go_upto_region 23 with(first|(go_at_call_of 54 no;refine(HO _).mono ?_;rintro e w1 ⟨rfl,rfl⟩))
  open aoN in exact Rs
theorem Fj (no:Int) (k:ByteArray) (n:Int) (m:Mg) (w:World):Calls Tryz.prog 105 #[jB ⟨5,no,k,n,m⟩] w (eP w (.bool (bV ⟨5,no,k,n,m⟩))):=by
 open anH in exact acE
theorem Fg (no:Int) (k:ByteArray) (n:Int) (m:Mg) (w:World):Calls Tryz.prog 105 #[jB ⟨6,no,k,n,m⟩] w (eP w (.bool (bV ⟨6,no,k,n,m⟩))):=by
 have HM:=Hq (λw1=>He m w1);open aoT in exact ac1
theorem Fe (K no:Int) (k:ByteArray) (n:Int) (m:Mg) (w:World) (h0:¬K=0) (h1:¬K=1) (h2:¬K=2) (h3:¬K=3) (h4:¬K=4) (h5:¬K=5) (h6:¬K=6):Calls Tryz.prog 105 #[jB ⟨K,no,k,n,m⟩] w (eP w (.bool (bV ⟨K,no,k,n,m⟩))):=by
 have HP:=Hq (show bV ⟨K,no,k,n,m⟩=false by simp[bV,h0,h1,h2,h3,h4,h5,h6]);obtain⟨mK,mF,mT,mI,mL,mk,mN⟩:=m;go_enter Tryz.func105,Tryz.ntmps105
 go_wp2_with fail;go_ret;exact⟨aD HP.symm,jg w _ _⟩
theorem MF (o:gM) (w:World):Calls Tryz.prog 105 #[jB o] w (eP w (.bool (bV o))):=by
 obtain⟨K,no,k,n,m⟩:=o;by_cases h0:K=0
 .subst h0;exact Fh no k n m w
 by_cases h1:K=1
 .subst h1;exact Dr no k n m w
 by_cases h2:K=2
 .subst h2;exact zU no k n m w
 by_cases h3:K=3
 .subst h3;exact Fp no k n m w
 by_cases h4:K=4
 .subst h4;exact E9 no k n m w
 by_cases h5:K=5
 .subst h5;exact Fj no k n m w
 by_cases h6:K=6
 .subst h6;exact Fg no k n m w
 exact Fe K no k n m w h0 h1 h2 h3 h4 h5 h6
theorem Uh (o:gM) (w:World):Calls Tryz.prog 223 #[jB o] w (eP w (.bool (bV o))):=by
 have HO:=Hq (λw1=>MF o w1);generalize bV o=r at *;obtain⟨K,no,k,n,⟨mK,mF,mT,mI,mL,mk,mN⟩⟩:=o;go_enter Tryz.func223,Tryz.ntmps223
 exact as9
end Go.Proofs.YtacgbldlonoaaaaGreatDoor
