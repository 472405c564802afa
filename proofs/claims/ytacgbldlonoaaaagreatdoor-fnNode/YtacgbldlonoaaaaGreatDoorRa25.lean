/- Parts. -/
import Derived.Test.YtacgbldlonoaaaaGreatDoorRa24
namespace Go.Proofs.YtacgbldlonoaaaaGreatDoor
set_option maxHeartbeats 4000000
set_option maxRecDepth 100000
open Go.RowKit
open Mth
theorem Below.setNew {B g i:Nat} {w w':World} {v:Value} (h:Below B w w') (hg:B≤g):Below B w (w'.setCell ⟨g,i,none⟩ v):=
 ⟨h.os,h.tape,h.output,by simpa [World.setCell] using h.size,fun k hk=>by
  have hkg:k≠g:=by omega
  rw [Below.heap_setCell _ _ _ _ hkg]
  exact h.block k hk⟩
theorem pR {w:World} {g:Nat} {cs:Array Value} {t:TypeId} (h:w.heap[g]?=some (.cells cs t (0,0))) (i:Nat):w.frozen? ⟨g,i,none⟩=false:=by unfold World.frozen?;rw [h];simp
theorem jr (w:World) (a b:Obj):((w.alloc a).alloc b).heap[w.heap.size]?=some a∧((w.alloc a).alloc b).heap[w.heap.size+1]?=some b:=by
 have h1:=fG (heap_alloc_new w a) (au (w.alloc a) b);have h2:=heap_alloc_new (w.alloc a) b;rw [show(w.alloc a).heap.size=w.heap.size+1 by simp] at h2;exact⟨h1,h2⟩
theorem iG (w:World) (a b:Obj):Below w.heap.size w ((w.alloc a).alloc b):=(au w a).alloc (by simp) b
theorem yN {w:World} {g:Nat} {v0 v1 v2 v3 v4 v5 v6 v7 v8 v9 v10:Value} {t:TypeId} (h:w.heap[g]?=some (.cells #[v0,v1,v2,v3,v4,v5,v6,v7,v8,v9,v10] t (0,0))):
 w.cell? ⟨g,0,none⟩=some v0∧w.cell? ⟨g,1,none⟩=some v1∧w.cell? ⟨g,2,none⟩=some v2∧w.cell? ⟨g,3,none⟩=some v3∧w.cell? ⟨g,4,none⟩=some v4∧w.cell? ⟨g,5,none⟩=some v5∧w.cell? ⟨g,6,none⟩=some v6∧w.cell? ⟨g,7,none⟩=some v7∧w.cell? ⟨g,8,none⟩=some v8∧w.cell? ⟨g,9,none⟩=some v9∧w.cell? ⟨g,10,none⟩=some v10:=by
 have hc:∀i,w.cell? ⟨g,i,none⟩=#[v0,v1,v2,v3,v4,v5,v6,v7,v8,v9,v10][i]?:=fun i=>cell_of_row w g i _ t (0,0) h
 exact⟨hc 0,hc 1,hc 2,hc 3,hc 4,hc 5,hc 6,hc 7,hc 8,hc 9,hc 10⟩
theorem Bw (no:Int) (k:ByteArray) (n:Int) (m:Mg) (w:World):Calls Tryz.prog 105 #[jH ⟨0,no,k,n,m⟩] w fun e w'=>e= .returned (.bool (bX ⟨0,no,k,n,m⟩))∧Below w.heap.size w w':=by
 obtain⟨mK,mF,mT,mI,mL,mk,mN⟩:=m;obtain⟨R,hR⟩:∃R,bX ⟨0,no,k,n,⟨mK,mF,mT,mI,mL,mk,mN⟩⟩=R:=⟨_,rfl⟩;rw [hR];have HR:=hide hR;clear hR;cases hk:keyOk k.data.toList
 ·exact aa0
 ·have HK:=hide (fun w1=>gB k true w1 hk);cases hn:eD n
  ·exact aa4
  ·open adR in exact aaH
theorem BA (no:Int) (k:ByteArray) (n:Int) (m:Mg) (w:World):Calls Tryz.prog 105 #[jH ⟨3,no,k,n,m⟩] w fun e w'=>e= .returned (.bool (bX ⟨3,no,k,n,m⟩))∧Below w.heap.size w w':=by
 obtain⟨mK,mF,mT,mI,mL,mk,mN⟩:=m;obtain⟨R,hR⟩:∃R,bX ⟨3,no,k,n,⟨mK,mF,mT,mI,mL,mk,mN⟩⟩=R:=⟨_,rfl⟩;rw [hR];have HR:=hide hR;clear hR;cases hk:keyOk k.data.toList
 ·exact aa0
 ·have HK:=hide (fun w1=>gB k true w1 hk);cases hn:eD n
  ·exact aa4
  ·open adQ in exact aaH
theorem Bq (no:Int) (k:ByteArray) (n:Int) (m:Mg) (w:World):Calls Tryz.prog 105 #[jH ⟨4,no,k,n,m⟩] w fun e w'=>e= .returned (.bool (bX ⟨4,no,k,n,m⟩))∧Below w.heap.size w w':=by
 obtain⟨mK,mF,mT,mI,mL,mk,mN⟩:=m;obtain⟨R,hR⟩:∃R,bX ⟨4,no,k,n,⟨mK,mF,mT,mI,mL,mk,mN⟩⟩=R:=⟨_,rfl⟩;rw [hR];have HR:=hide hR;clear hR;cases hk:keyOk k.data.toList
 ·exact aa0
 ·have HK:=hide (fun w1=>gB k true w1 hk);cases hn:eD n
  ·exact aa4
  ·open adP in exact aaH
theorem zJ (no:Int) (k:ByteArray) (n:Int) (m:Mg) (w:World):Calls Tryz.prog 105 #[jH ⟨1,no,k,n,m⟩] w fun e w'=>e= .returned (.bool (bX ⟨1,no,k,n,m⟩))∧Below w.heap.size w w':=by
 obtain⟨mK,mF,mT,mI,mL,mk,mN⟩:=m;obtain⟨R,hR⟩:∃R,bX ⟨1,no,k,n,⟨mK,mF,mT,mI,mL,mk,mN⟩⟩=R:=⟨_,rfl⟩;rw [hR];have HR:=hide hR;clear hR;cases ho:eD no
 ·have HO:=hide (fun w1=>aP no false w1 ho);cases hk:keyOk k.data.toList
  ·have HK:=hide (fun w1=>gB k false w1 hk);cases hn:eD n
   ·have HN:=hide (fun w1=>aP n false w1 hn);have HP:=hide (show R=(false&&false&&false&&jV ⟨mK,mF,mT,mI,mL,mk,mN⟩) by rw [←ah HR];simp[bX,ho,hk,hn]);exact JL
   ·have HN:=hide (fun w1=>aP n true w1 hn);have HP:=hide (show R=(false&&false&&true&&jV ⟨mK,mF,mT,mI,mL,mk,mN⟩) by rw [←ah HR];simp[bX,ho,hk,hn]);exact JL
  ·have HK:=hide (fun w1=>gB k true w1 hk);cases hn:eD n
   ·have HN:=hide (fun w1=>aP n false w1 hn);have HP:=hide (show R=(false&&true&&false&&jV ⟨mK,mF,mT,mI,mL,mk,mN⟩) by rw [←ah HR];simp[bX,ho,hk,hn]);exact JL
   ·have HN:=hide (fun w1=>aP n true w1 hn);have HP:=hide (show R=(false&&true&&true&&jV ⟨mK,mF,mT,mI,mL,mk,mN⟩) by rw [←ah HR];simp[bX,ho,hk,hn]);exact JL
 ·have HO:=hide (fun w1=>aP no true w1 ho);cases hk:keyOk k.data.toList
  ·have HK:=hide (fun w1=>gB k false w1 hk);cases hn:eD n
   ·have HN:=hide (fun w1=>aP n false w1 hn);have HP:=hide (show R=(true&&false&&false&&jV ⟨mK,mF,mT,mI,mL,mk,mN⟩) by rw [←ah HR];simp[bX,ho,hk,hn]);exact JL
   ·have HN:=hide (fun w1=>aP n true w1 hn);have HP:=hide (show R=(true&&false&&true&&jV ⟨mK,mF,mT,mI,mL,mk,mN⟩) by rw [←ah HR];simp[bX,ho,hk,hn]);exact JL
  ·have HK:=hide (fun w1=>gB k true w1 hk);cases hn:eD n
   ·have HN:=hide (fun w1=>aP n false w1 hn);have HP:=hide (show R=(true&&true&&false&&jV ⟨mK,mF,mT,mI,mL,mk,mN⟩) by rw [←ah HR];simp[bX,ho,hk,hn]);exact JL
   ·have HN:=hide (fun w1=>aP n true w1 hn);have HP:=hide (show R=(true&&true&&true&&jV ⟨mK,mF,mT,mI,mL,mk,mN⟩) by rw [←ah HR];simp[bX,ho,hk,hn]);open aiw in exact XA
theorem xu (no:Int) (k:ByteArray) (n:Int) (m:Mg) (w:World):Calls Tryz.prog 105 #[jH ⟨2,no,k,n,m⟩] w fun e w'=>e= .returned (.bool (bX ⟨2,no,k,n,m⟩))∧Below w.heap.size w w':=by
 obtain⟨mK,mF,mT,mI,mL,mk,mN⟩:=m;obtain⟨R,hR⟩:∃R,bX ⟨2,no,k,n,⟨mK,mF,mT,mI,mL,mk,mN⟩⟩=R:=⟨_,rfl⟩;rw [hR];have HR:=hide hR;clear hR;cases ho:eD no
 ·have HO:=hide (fun w1=>aP no false w1 ho);have HP:=hide (show R=(decide (k.toList=[])&&decide (n=0)&&false&&jV ⟨mK,mF,mT,mI,mL,mk,mN⟩) by rw [←ah HR];simp[bX,ho]);clear HR;clear ho;go_enter Tryz.func105,Tryz.ntmps105
  go_wp2_with (first|(go_at_call_of 54 no;refine(HO _).mono ?_;rintro e w1 ⟨rfl,rfl⟩))
  go_ret;exact⟨aD (by rw [ah HP];simp),by first|exact iG w _ _|exact Below.setNew (iG w _ _) (by omega)⟩
 ·have HO:=hide (fun w1=>aP no true w1 ho);have HP:=hide (show R=(decide (k.toList=[])&&decide (n=0)&&true&&jV ⟨mK,mF,mT,mI,mL,mk,mN⟩) by rw [←ah HR];simp[bX,ho]);clear HR;clear ho;go_enter Tryz.func105,Tryz.ntmps105
  go_upto_region 23 with(first|(go_at_call_of 54 no;refine(HO _).mono ?_;rintro e w1 ⟨rfl,rfl⟩))
  open ajE in exact LY
theorem Bz (no:Int) (k:ByteArray) (n:Int) (m:Mg) (w:World):Calls Tryz.prog 105 #[jH ⟨5,no,k,n,m⟩] w fun e w'=>e= .returned (.bool (bX ⟨5,no,k,n,m⟩))∧Below w.heap.size w w':=by
 open ajc in exact XQ
theorem Bv (no:Int) (k:ByteArray) (n:Int) (m:Mg) (w:World):Calls Tryz.prog 105 #[jH ⟨6,no,k,n,m⟩] w fun e w'=>e= .returned (.bool (bX ⟨6,no,k,n,m⟩))∧Below w.heap.size w w':=by
 have HM:=hide (fun w1=>Oe m w1);open ajP in exact Yc
theorem Bu (K no:Int) (k:ByteArray) (n:Int) (m:Mg) (w:World) (h0:¬K=0) (h1:¬K=1) (h2:¬K=2) (h3:¬K=3) (h4:¬K=4) (h5:¬K=5) (h6:¬K=6):Calls Tryz.prog 105 #[jH ⟨K,no,k,n,m⟩] w fun e w'=>e= .returned (.bool (bX ⟨K,no,k,n,m⟩))∧Below w.heap.size w w':=by
 have HP:=hide (show bX ⟨K,no,k,n,m⟩=false by simp[bX,h0,h1,h2,h3,h4,h5,h6]);obtain⟨mK,mF,mT,mI,mL,mk,mN⟩:=m;go_enter Tryz.func105,Tryz.ntmps105
 go_wp2_with fail;go_ret;exact⟨aD HP.symm,iG w _ _⟩
theorem Sb (o:jE) (w:World):Calls Tryz.prog 105 #[jH o] w fun e w'=>e= .returned (.bool (bX o))∧Below w.heap.size w w':=by
 obtain⟨K,no,k,n,m⟩:=o;by_cases h0:K=0
 ·subst h0;exact Bw no k n m w
 by_cases h1:K=1
 ·subst h1;exact zJ no k n m w
 by_cases h2:K=2
 ·subst h2;exact xu no k n m w
 by_cases h3:K=3
 ·subst h3;exact BA no k n m w
 by_cases h4:K=4
 ·subst h4;exact Bq no k n m w
 by_cases h5:K=5
 ·subst h5;exact Bz no k n m w
 by_cases h6:K=6
 ·subst h6;exact Bv no k n m w
 exact Bu K no k n m w h0 h1 h2 h3 h4 h5 h6
end Go.Proofs.YtacgbldlonoaaaaGreatDoor
