/- Parts. -/
import Derived.Test.YtacgbldlonoaaaaGreatDoorRw17
namespace Go.Proofs.YtacgbldlonoaaaaGreatDoor
open Go.Proofs.Tryz
set_option maxHeartbeats 4000000
set_option maxRecDepth 100000
open Go.RowKit
open Mth
variable (no:Int) (k:ByteArray) (n:Int) (m:Mg) (w:World) {g:Nat} {t:TypeId}
theorem Below.setNew {B i:Nat} {w w':World} {v:Value} (h:Below B w w') (hg:B<=g):Below B w (w'.setCell ⟨g,i,none⟩ v):=
 ⟨h.os,h.tape,h.output,by simpa [World.setCell] using h.size,λk hk=>by
  have hkg:k≠g:=Aaa
  rw [Below.heap_setCell _ _ _ _ hkg]
  exact h.block k hk⟩
theorem uP {w:World} {cs:Array Value} (h:w.heap[g]?=some (.cells cs t (0,0))) (i:Nat):w.frozen? ⟨g,i,none⟩=false:=by unfold World.frozen?;rw [h];simp
theorem lV (w:World) (a b:Obj):((w.alloc a).alloc b).heap[w.heap.size]?=some a/\((w.alloc a).alloc b).heap[w.heap.size+1]?=some b:=by
 have h1:=aJ (heap_alloc_new w a) (au (w.alloc a) b);have h2:=heap_alloc_new (w.alloc a) b;rw [show(w.alloc a).heap.size=w.heap.size+1 by simp] at h2;exact⟨h1,h2⟩
theorem jR (w:World) (a b:Obj):Below w.heap.size w ((w.alloc a).alloc b):=(au w a).alloc Aac b
theorem En {w:World} {v0 v1 v2 v3 v4 v5 v6 v7 v8 v9 v10:Value} (h:w.heap[g]?=some (.cells #[v0,v1,v2,v3,v4,v5,v6,v7,v8,v9,v10] t (0,0))):
 w.cell? ⟨g,0,none⟩=some v0/\w.cell? ⟨g,1,none⟩=some v1/\w.cell? ⟨g,2,none⟩=some v2/\w.cell? ⟨g,3,none⟩=some v3/\w.cell? ⟨g,4,none⟩=some v4/\w.cell? ⟨g,5,none⟩=some v5/\w.cell? ⟨g,6,none⟩=some v6/\w.cell? ⟨g,7,none⟩=some v7/\w.cell? ⟨g,8,none⟩=some v8/\w.cell? ⟨g,9,none⟩=some v9/\w.cell? ⟨g,10,none⟩=some v10:=by
 exact ag2
theorem Io:Calls prog 105 #[jX ⟨0,no,k,n,m⟩] w (fF w (.bool (bq ⟨0,no,k,n,m⟩))):=by
 obtain⟨mK,mF,mT,mI,mL,mk,mN⟩:=m;obtain⟨R,hR⟩:∃R,bq ⟨0,no,k,n,⟨mK,mF,mT,mI,mL,mk,mN⟩⟩=R:=⟨_,rfl⟩;rw [hR];have HR:=Hq hR;clear hR;cases hk:keyOk k.data.toList
 .exact ai5
 .have HK:=Hq (λw1=>iF k true w1 hk);cases hn:fV n
  .exact ai9
  .open amd in exact aiP
theorem Iq:Calls prog 105 #[jX ⟨3,no,k,n,m⟩] w (fF w (.bool (bq ⟨3,no,k,n,m⟩))):=by
 obtain⟨mK,mF,mT,mI,mL,mk,mN⟩:=m;obtain⟨R,hR⟩:∃R,bq ⟨3,no,k,n,⟨mK,mF,mT,mI,mL,mk,mN⟩⟩=R:=⟨_,rfl⟩;rw [hR];have HR:=Hq hR;clear hR;cases hk:keyOk k.data.toList
 .exact ai5
 .have HK:=Hq (λw1=>iF k true w1 hk);cases hn:fV n
  .exact ai9
  .open amc in exact aiP
theorem Ij:Calls prog 105 #[jX ⟨4,no,k,n,m⟩] w (fF w (.bool (bq ⟨4,no,k,n,m⟩))):=by
 obtain⟨mK,mF,mT,mI,mL,mk,mN⟩:=m;obtain⟨R,hR⟩:∃R,bq ⟨4,no,k,n,⟨mK,mF,mT,mI,mL,mk,mN⟩⟩=R:=⟨_,rfl⟩;rw [hR];have HR:=Hq hR;clear hR;cases hk:keyOk k.data.toList
 .exact ai5
 .have HK:=Hq (λw1=>iF k true w1 hk);cases hn:fV n
  .exact ai9
  .open amb in exact aiP
theorem FH:Calls prog 105 #[jX ⟨1,no,k,n,m⟩] w (fF w (.bool (bq ⟨1,no,k,n,m⟩))):=by
 obtain⟨mK,mF,mT,mI,mL,mk,mN⟩:=m;obtain⟨R,hR⟩:∃R,bq ⟨1,no,k,n,⟨mK,mF,mT,mI,mL,mk,mN⟩⟩=R:=⟨_,rfl⟩;rw [hR];have HR:=Hq hR;clear hR;cases ho:fV no
 .have HO:=Hq (λw1=>aU no false w1 ho);cases hk:keyOk k.data.toList
  .have HK:=Hq (λw1=>iF k false w1 hk);cases hn:fV n
   .have HN:=Hq (λw1=>aU n false w1 hn);have HP:=Hq (show R=(false&&false&&false&&mh ⟨mK,mF,mT,mI,mL,mk,mN⟩) by rw [<-ah HR];simp[bq,ho,hk,hn]);exact Sq
   .have HN:=Hq (λw1=>aU n true w1 hn);have HP:=Hq (show R=(false&&false&&true&&mh ⟨mK,mF,mT,mI,mL,mk,mN⟩) by rw [<-ah HR];simp[bq,ho,hk,hn]);exact Sq
  .have HK:=Hq (λw1=>iF k true w1 hk);cases hn:fV n
   .have HN:=Hq (λw1=>aU n false w1 hn);have HP:=Hq (show R=(false&&true&&false&&mh ⟨mK,mF,mT,mI,mL,mk,mN⟩) by rw [<-ah HR];simp[bq,ho,hk,hn]);exact Sq
   .have HN:=Hq (λw1=>aU n true w1 hn);have HP:=Hq (show R=(false&&true&&true&&mh ⟨mK,mF,mT,mI,mL,mk,mN⟩) by rw [<-ah HR];simp[bq,ho,hk,hn]);exact Sq
 .have HO:=Hq (λw1=>aU no true w1 ho);cases hk:keyOk k.data.toList
  .have HK:=Hq (λw1=>iF k false w1 hk);cases hn:fV n
   .have HN:=Hq (λw1=>aU n false w1 hn);have HP:=Hq (show R=(true&&false&&false&&mh ⟨mK,mF,mT,mI,mL,mk,mN⟩) by rw [<-ah HR];simp[bq,ho,hk,hn]);exact Sq
   .have HN:=Hq (λw1=>aU n true w1 hn);have HP:=Hq (show R=(true&&false&&true&&mh ⟨mK,mF,mT,mI,mL,mk,mN⟩) by rw [<-ah HR];simp[bq,ho,hk,hn]);exact Sq
  .have HK:=Hq (λw1=>iF k true w1 hk);cases hn:fV n
   .have HN:=Hq (λw1=>aU n false w1 hn);have HP:=Hq (show R=(true&&true&&false&&mh ⟨mK,mF,mT,mI,mL,mk,mN⟩) by rw [<-ah HR];simp[bq,ho,hk,hn]);exact Sq
   .have HN:=Hq (λw1=>aU n true w1 hn);have HP:=Hq (show R=(true&&true&&true&&mh ⟨mK,mF,mT,mI,mL,mk,mN⟩) by rw [<-ah HR];simp[bq,ho,hk,hn]);open arR in exact afL
theorem Cj:Calls prog 105 #[jX ⟨2,no,k,n,m⟩] w (fF w (.bool (bq ⟨2,no,k,n,m⟩))):=by
 obtain⟨mK,mF,mT,mI,mL,mk,mN⟩:=m;obtain⟨R,hR⟩:∃R,bq ⟨2,no,k,n,⟨mK,mF,mT,mI,mL,mk,mN⟩⟩=R:=⟨_,rfl⟩;rw [hR];have HR:=Hq hR;clear hR;cases ho:fV no
 .have HO:=Hq (λw1=>aU no false w1 ho);have HP:=Hq (show R=(decide (k.toList=[])&&decide (n=0)&&false&&mh ⟨mK,mF,mT,mI,mL,mk,mN⟩) by rw [<-ah HR];simp[bq,ho]);clear HR;clear ho;go_in
  go_wp2_with (first|(go_at_call_of 54 no;refine(HO _).mono ?_;rintro e w1 ⟨rfl,rfl⟩))
  go_ret;exact⟨aD (by rw [ah HP];simp),by first|exact jR w _ _|exact Below.setNew (jR w _ _) Aaa⟩
 .have HO:=Hq (λw1=>aU no true w1 ho);have HP:=Hq (show R=(decide (k.toList=[])&&decide (n=0)&&true&&mh ⟨mK,mF,mT,mI,mL,mk,mN⟩) by rw [<-ah HR];simp[bq,ho]);clear HR;clear ho;go_in
  go_upto_region 23 with(first|(go_at_call_of 54 no;refine(HO _).mono ?_;rintro e w1 ⟨rfl,rfl⟩))
  open atx in exact Vk
theorem Ip:Calls prog 105 #[jX ⟨5,no,k,n,m⟩] w (fF w (.bool (bq ⟨5,no,k,n,m⟩))):=by
 open ase in exact afQ
theorem Il:Calls prog 105 #[jX ⟨6,no,k,n,m⟩] w (fF w (.bool (bq ⟨6,no,k,n,m⟩))):=by
 have HM:=Hq (λw1=>JV m w1);open atE in exact agh
theorem Ik (K no:Int) (k:ByteArray) (n:Int) (m:Mg) (w:World) (h0:¬K=0) (h1:¬K=1) (h2:¬K=2) (h3:¬K=3) (h4:¬K=4) (h5:¬K=5) (h6:¬K=6):Calls prog 105 #[jX ⟨K,no,k,n,m⟩] w (fF w (.bool (bq ⟨K,no,k,n,m⟩))):=by
 have HP:=Hq (show bq ⟨K,no,k,n,m⟩=false by simp[bq,h0,h1,h2,h3,h4,h5,h6]);obtain⟨mK,mF,mT,mI,mL,mk,mN⟩:=m;go_in
 go_wp2_with fail;go_ret;exact⟨aD HP.symm,jR w _ _⟩
theorem PD (o:fP) (w:World):Calls prog 105 #[jX o] w (fF w (.bool (bq o))):=by
 obtain⟨K,no,k,n,m⟩:=o;by_cases h0:K=0
 .subst h0;exact Io no k n m w
 by_cases h1:K=1
 .subst h1;exact FH no k n m w
 by_cases h2:K=2
 .subst h2;exact Cj no k n m w
 by_cases h3:K=3
 .subst h3;exact Iq no k n m w
 by_cases h4:K=4
 .subst h4;exact Ij no k n m w
 by_cases h5:K=5
 .subst h5;exact Ip no k n m w
 by_cases h6:K=6
 .subst h6;exact Il no k n m w
 exact Ik K no k n m w h0 h1 h2 h3 h4 h5 h6
theorem XB (o:fP) (w:World):Calls prog 223 #[jX o] w (fF w (.bool (bq o))):=by
 have HO:=Hq (λw1=>PD o w1);generalize bq o=r at *;obtain⟨K,no,k,n,⟨mK,mF,mT,mI,mL,mk,mN⟩⟩:=o;go_in
 exact ag4
end Go.Proofs.YtacgbldlonoaaaaGreatDoor
