/- Parts. -/
import Derived.Test.YtohmklmkjmlpjaaGreatDoorRk10
namespace Go.Proofs.YtohmklmkjmlpjaaGreatDoor
open Go.Proofs.Tryz
set_option maxHeartbeats 4000000
set_option maxRecDepth 100000
open Go.RowKit
open Mth
variable (no:Int) (k:ByteArray) (n:Int) (m:Mg) (w:World) {g:Nat} {t:TypeId}
theorem Below.setNew {B i:Nat} {w w':World} {v:Value} (h:Below B w w') (hg:B<=g):Below B w (w'.setCell ⟨g,i,none⟩ v):=
 ⟨h.os,h.tape,h.output,by simpa [World.setCell] using h.size,λk hk=>by
  have hkg:k≠g:=Aaa
  rw [Below.heap_setCell _ _ _ _ hkg]
  exact h.block k hk⟩
theorem uq {w:World} {cs:Array Value} (h:w.heap[g]?=some (.cells cs t (0,0))) (i:Nat):w.frozen? ⟨g,i,none⟩=false:=by unfold World.frozen?;rw [h];simp
theorem kV (w:World) (a b:Obj):((w.alloc a).alloc b).heap[w.heap.size]?=some a/\((w.alloc a).alloc b).heap[w.heap.size+1]?=some b:=by
 have h1:=aN (heap_alloc_new w a) (ay (w.alloc a) b);have h2:=heap_alloc_new (w.alloc a) b;rw [show(w.alloc a).heap.size=w.heap.size+1 by simp] at h2;exact⟨h1,h2⟩
theorem jy (w:World) (a b:Obj):Below w.heap.size w ((w.alloc a).alloc b):=(ay w a).alloc Aac b
theorem DK {w:World} {v0 v1 v2 v3 v4 v5 v6 v7 v8 v9 v10:Value} (h:w.heap[g]?=some (.cells #[v0,v1,v2,v3,v4,v5,v6,v7,v8,v9,v10] t (0,0))):
 w.cell? ⟨g,0,none⟩=some v0/\w.cell? ⟨g,1,none⟩=some v1/\w.cell? ⟨g,2,none⟩=some v2/\w.cell? ⟨g,3,none⟩=some v3/\w.cell? ⟨g,4,none⟩=some v4/\w.cell? ⟨g,5,none⟩=some v5/\w.cell? ⟨g,6,none⟩=some v6/\w.cell? ⟨g,7,none⟩=some v7/\w.cell? ⟨g,8,none⟩=some v8/\w.cell? ⟨g,9,none⟩=some v9/\w.cell? ⟨g,10,none⟩=some v10:=by
 exact aiQ
theorem GY:Calls prog 173 #[jJ ⟨0,no,k,n,m⟩] w (eO w (.bool (cK ⟨0,no,k,n,m⟩))):=by
 obtain⟨mK,mF,mT,mI,mL,mk,mN⟩:=m;obtain⟨R,hR⟩:∃R,cK ⟨0,no,k,n,⟨mK,mF,mT,mI,mL,mk,mN⟩⟩=R:=⟨_,rfl⟩;rw [hR];have HR:=Hq hR;clear hR;cases hk:keyOk k.data.toList
 .exact akZ
 .have HK:=Hq (λw1=>iC k true w1 hk);cases hn:fK n
  .exact ak7
  .open aoB in exact akJ
theorem He:Calls prog 173 #[jJ ⟨3,no,k,n,m⟩] w (eO w (.bool (cK ⟨3,no,k,n,m⟩))):=by
 obtain⟨mK,mF,mT,mI,mL,mk,mN⟩:=m;obtain⟨R,hR⟩:∃R,cK ⟨3,no,k,n,⟨mK,mF,mT,mI,mL,mk,mN⟩⟩=R:=⟨_,rfl⟩;rw [hR];have HR:=Hq hR;clear hR;cases hk:keyOk k.data.toList
 .exact akZ
 .have HK:=Hq (λw1=>iC k true w1 hk);cases hn:fK n
  .exact ak7
  .open aoA in exact akJ
theorem GQ:Calls prog 173 #[jJ ⟨4,no,k,n,m⟩] w (eO w (.bool (cK ⟨4,no,k,n,m⟩))):=by
 obtain⟨mK,mF,mT,mI,mL,mk,mN⟩:=m;obtain⟨R,hR⟩:∃R,cK ⟨4,no,k,n,⟨mK,mF,mT,mI,mL,mk,mN⟩⟩=R:=⟨_,rfl⟩;rw [hR];have HR:=Hq hR;clear hR;cases hk:keyOk k.data.toList
 .exact akZ
 .have HK:=Hq (λw1=>iC k true w1 hk);cases hn:fK n
  .exact ak7
  .open aoz in exact akJ
theorem ER:Calls prog 173 #[jJ ⟨1,no,k,n,m⟩] w (eO w (.bool (cK ⟨1,no,k,n,m⟩))):=by
 obtain⟨mK,mF,mT,mI,mL,mk,mN⟩:=m;obtain⟨R,hR⟩:∃R,cK ⟨1,no,k,n,⟨mK,mF,mT,mI,mL,mk,mN⟩⟩=R:=⟨_,rfl⟩;rw [hR];have HR:=Hq hR;clear hR;cases ho:fK no
 .have HO:=Hq (λw1=>aT no false w1 ho);cases hk:keyOk k.data.toList
  .have HK:=Hq (λw1=>iC k false w1 hk);cases hn:fK n
   .have HN:=Hq (λw1=>aT n false w1 hn);have HP:=Hq (show R=(false&&false&&false&&lQ ⟨mK,mF,mT,mI,mL,mk,mN⟩) by rw [<-ah HR];simp[cK,ho,hk,hn]);exact Si
   .have HN:=Hq (λw1=>aT n true w1 hn);have HP:=Hq (show R=(false&&false&&true&&lQ ⟨mK,mF,mT,mI,mL,mk,mN⟩) by rw [<-ah HR];simp[cK,ho,hk,hn]);exact Si
  .have HK:=Hq (λw1=>iC k true w1 hk);cases hn:fK n
   .have HN:=Hq (λw1=>aT n false w1 hn);have HP:=Hq (show R=(false&&true&&false&&lQ ⟨mK,mF,mT,mI,mL,mk,mN⟩) by rw [<-ah HR];simp[cK,ho,hk,hn]);exact Si
   .have HN:=Hq (λw1=>aT n true w1 hn);have HP:=Hq (show R=(false&&true&&true&&lQ ⟨mK,mF,mT,mI,mL,mk,mN⟩) by rw [<-ah HR];simp[cK,ho,hk,hn]);exact Si
 .have HO:=Hq (λw1=>aT no true w1 ho);cases hk:keyOk k.data.toList
  .have HK:=Hq (λw1=>iC k false w1 hk);cases hn:fK n
   .have HN:=Hq (λw1=>aT n false w1 hn);have HP:=Hq (show R=(true&&false&&false&&lQ ⟨mK,mF,mT,mI,mL,mk,mN⟩) by rw [<-ah HR];simp[cK,ho,hk,hn]);exact Si
   .have HN:=Hq (λw1=>aT n true w1 hn);have HP:=Hq (show R=(true&&false&&true&&lQ ⟨mK,mF,mT,mI,mL,mk,mN⟩) by rw [<-ah HR];simp[cK,ho,hk,hn]);exact Si
  .have HK:=Hq (λw1=>iC k true w1 hk);cases hn:fK n
   .have HN:=Hq (λw1=>aT n false w1 hn);have HP:=Hq (show R=(true&&true&&false&&lQ ⟨mK,mF,mT,mI,mL,mk,mN⟩) by rw [<-ah HR];simp[cK,ho,hk,hn]);exact Si
   .have HN:=Hq (λw1=>aT n true w1 hn);have HP:=Hq (show R=(true&&true&&true&&lQ ⟨mK,mF,mT,mI,mL,mk,mN⟩) by rw [<-ah HR];simp[cK,ho,hk,hn]);open avo in exact agU
theorem BA:Calls prog 173 #[jJ ⟨2,no,k,n,m⟩] w (eO w (.bool (cK ⟨2,no,k,n,m⟩))):=by
 obtain⟨mK,mF,mT,mI,mL,mk,mN⟩:=m;obtain⟨R,hR⟩:∃R,cK ⟨2,no,k,n,⟨mK,mF,mT,mI,mL,mk,mN⟩⟩=R:=⟨_,rfl⟩;rw [hR];have HR:=Hq hR;clear hR;cases ho:fK no
 .have HO:=Hq (λw1=>aT no false w1 ho);have HP:=Hq (show R=(decide (k.toList=[])&&decide (n=0)&&false&&lQ ⟨mK,mF,mT,mI,mL,mk,mN⟩) by rw [<-ah HR];simp[cK,ho]);clear HR;clear ho;go_in
  go_wp2_with (first|(go_at_call_of 169 no;refine(HO _).mono ?_;rintro e w1 ⟨rfl,rfl⟩))
  go_ret;exact⟨aF (by rw [ah HP];simp),by first|exact jy w _ _|exact Below.setNew (jy w _ _) Aaa⟩
 .have HO:=Hq (λw1=>aT no true w1 ho);have HP:=Hq (show R=(decide (k.toList=[])&&decide (n=0)&&true&&lQ ⟨mK,mF,mT,mI,mL,mk,mN⟩) by rw [<-ah HR];simp[cK,ho]);clear HR;clear ho;go_in
  go_upto_region 23 with(first|(go_at_call_of 169 no;refine(HO _).mono ?_;rintro e w1 ⟨rfl,rfl⟩))
  open axe in exact Vo
theorem GZ:Calls prog 173 #[jJ ⟨5,no,k,n,m⟩] w (eO w (.bool (cK ⟨5,no,k,n,m⟩))):=by
 open avH in exact ag0
theorem GX:Calls prog 173 #[jJ ⟨6,no,k,n,m⟩] w (eO w (.bool (cK ⟨6,no,k,n,m⟩))):=by
 have HM:=Hq (λw1=>Jt m w1);open axr in exact ahu
theorem GU (K no:Int) (k:ByteArray) (n:Int) (m:Mg) (w:World) (h0:¬K=0) (h1:¬K=1) (h2:¬K=2) (h3:¬K=3) (h4:¬K=4) (h5:¬K=5) (h6:¬K=6):Calls prog 173 #[jJ ⟨K,no,k,n,m⟩] w (eO w (.bool (cK ⟨K,no,k,n,m⟩))):=by
 have HP:=Hq (show cK ⟨K,no,k,n,m⟩=false by simp[cK,h0,h1,h2,h3,h4,h5,h6]);obtain⟨mK,mF,mT,mI,mL,mk,mN⟩:=m;go_in
 go_wp2_with fail;go_ret;exact⟨aF HP.symm,jy w _ _⟩
theorem Py (o:gQ) (w:World):Calls prog 173 #[jJ o] w (eO w (.bool (cK o))):=by
 obtain⟨K,no,k,n,m⟩:=o;by_cases h0:K=0
 .subst h0;exact GY no k n m w
 by_cases h1:K=1
 .subst h1;exact ER no k n m w
 by_cases h2:K=2
 .subst h2;exact BA no k n m w
 by_cases h3:K=3
 .subst h3;exact He no k n m w
 by_cases h4:K=4
 .subst h4;exact GQ no k n m w
 by_cases h5:K=5
 .subst h5;exact GZ no k n m w
 by_cases h6:K=6
 .subst h6;exact GX no k n m w
 exact GU K no k n m w h0 h1 h2 h3 h4 h5 h6
theorem XQ (o:gQ) (w:World):Calls prog 229 #[jJ o] w (eO w (.bool (cK o))):=by
 have HO:=Hq (λw1=>Py o w1);generalize cK o=r at *;obtain⟨K,no,k,n,⟨mK,mF,mT,mI,mL,mk,mN⟩⟩:=o;go_in
 exact aiS
end Go.Proofs.YtohmklmkjmlpjaaGreatDoor
