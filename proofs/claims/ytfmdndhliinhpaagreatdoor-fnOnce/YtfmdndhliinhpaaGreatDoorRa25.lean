/- Parts. -/
import Derived.Test.YtfmdndhliinhpaaGreatDoorRa24
namespace Go.Proofs.YtfmdndhliinhpaaGreatDoor
set_option maxHeartbeats 4000000
set_option maxRecDepth 100000
open Go.RowKit
open Mth
theorem Below.setNew {B g i:Nat} {w w':World} {v:Value} (h:Below B w w') (hg:B≤g):Below B w (w'.setCell ⟨g,i,none⟩ v):=
 ⟨h.os,h.tape,h.output,by simpa [World.setCell] using h.size,fun k hk=>by
  have hkg:k≠g:=by omega
  rw [Below.heap_setCell _ _ _ _ hkg]
  exact h.block k hk⟩
theorem qM {w:World} {g:Nat} {cs:Array Value} {t:TypeId} (h:w.heap[g]?=some (.cells cs t (0,0))) (i:Nat):w.frozen? ⟨g,i,none⟩=false:=by unfold World.frozen?;rw [h];simp
theorem jR (w:World) (a b:Obj):((w.alloc a).alloc b).heap[w.heap.size]?=some a∧((w.alloc a).alloc b).heap[w.heap.size+1]?=some b:=by
 have h1:=fQ (heap_alloc_new w a) (ay (w.alloc a) b);have h2:=heap_alloc_new (w.alloc a) b;rw [show(w.alloc a).heap.size=w.heap.size+1 by simp] at h2;exact⟨h1,h2⟩
theorem iT (w:World) (a b:Obj):Below w.heap.size w ((w.alloc a).alloc b):=(ay w a).alloc (by simp) b
theorem Al {w:World} {g:Nat} {v0 v1 v2 v3 v4 v5 v6 v7 v8 v9 v10:Value} {t:TypeId} (h:w.heap[g]?=some (.cells #[v0,v1,v2,v3,v4,v5,v6,v7,v8,v9,v10] t (0,0))):
 w.cell? ⟨g,0,none⟩=some v0∧w.cell? ⟨g,1,none⟩=some v1∧w.cell? ⟨g,2,none⟩=some v2∧w.cell? ⟨g,3,none⟩=some v3∧w.cell? ⟨g,4,none⟩=some v4∧w.cell? ⟨g,5,none⟩=some v5∧w.cell? ⟨g,6,none⟩=some v6∧w.cell? ⟨g,7,none⟩=some v7∧w.cell? ⟨g,8,none⟩=some v8∧w.cell? ⟨g,9,none⟩=some v9∧w.cell? ⟨g,10,none⟩=some v10:=by
 have hc:∀i,w.cell? ⟨g,i,none⟩=#[v0,v1,v2,v3,v4,v5,v6,v7,v8,v9,v10][i]?:=fun i=>cell_of_row w g i _ t (0,0) h
 exact⟨hc 0,hc 1,hc 2,hc 3,hc 4,hc 5,hc 6,hc 7,hc 8,hc 9,hc 10⟩
theorem Da (no:Int) (k:ByteArray) (n:Int) (m:Mg) (w:World):Calls Tryz.prog 44 #[jY ⟨0,no,k,n,m⟩] w fun e w'=>e= .returned (.bool (cZ ⟨0,no,k,n,m⟩))∧Below w.heap.size w w':=by
 obtain⟨mK,mF,mT,mI,mL,mk,mN⟩:=m;obtain⟨R,hR⟩:∃R,cZ ⟨0,no,k,n,⟨mK,mF,mT,mI,mL,mk,mN⟩⟩=R:=⟨_,rfl⟩;rw [hR];have HR:=hide hR;clear hR;cases hk:keyOk k.data.toList
 ·exact adx
 ·have HK:=hide (fun w1=>gJ k true w1 hk);cases hn:eU n
  ·exact adC
  ·open agS in exact adb
theorem Dc (no:Int) (k:ByteArray) (n:Int) (m:Mg) (w:World):Calls Tryz.prog 44 #[jY ⟨3,no,k,n,m⟩] w fun e w'=>e= .returned (.bool (cZ ⟨3,no,k,n,m⟩))∧Below w.heap.size w w':=by
 obtain⟨mK,mF,mT,mI,mL,mk,mN⟩:=m;obtain⟨R,hR⟩:∃R,cZ ⟨3,no,k,n,⟨mK,mF,mT,mI,mL,mk,mN⟩⟩=R:=⟨_,rfl⟩;rw [hR];have HR:=hide hR;clear hR;cases hk:keyOk k.data.toList
 ·exact adx
 ·have HK:=hide (fun w1=>gJ k true w1 hk);cases hn:eU n
  ·exact adC
  ·open agR in exact adb
theorem CY (no:Int) (k:ByteArray) (n:Int) (m:Mg) (w:World):Calls Tryz.prog 44 #[jY ⟨4,no,k,n,m⟩] w fun e w'=>e= .returned (.bool (cZ ⟨4,no,k,n,m⟩))∧Below w.heap.size w w':=by
 obtain⟨mK,mF,mT,mI,mL,mk,mN⟩:=m;obtain⟨R,hR⟩:∃R,cZ ⟨4,no,k,n,⟨mK,mF,mT,mI,mL,mk,mN⟩⟩=R:=⟨_,rfl⟩;rw [hR];have HR:=hide hR;clear hR;cases hk:keyOk k.data.toList
 ·exact adx
 ·have HK:=hide (fun w1=>gJ k true w1 hk);cases hn:eU n
  ·exact adC
  ·open agQ in exact adb
theorem Bz (no:Int) (k:ByteArray) (n:Int) (m:Mg) (w:World):Calls Tryz.prog 44 #[jY ⟨1,no,k,n,m⟩] w fun e w'=>e= .returned (.bool (cZ ⟨1,no,k,n,m⟩))∧Below w.heap.size w w':=by
 obtain⟨mK,mF,mT,mI,mL,mk,mN⟩:=m;obtain⟨R,hR⟩:∃R,cZ ⟨1,no,k,n,⟨mK,mF,mT,mI,mL,mk,mN⟩⟩=R:=⟨_,rfl⟩;rw [hR];have HR:=hide hR;clear hR;cases ho:eU no
 ·have HO:=hide (fun w1=>aS no false w1 ho);cases hk:keyOk k.data.toList
  ·have HK:=hide (fun w1=>gJ k false w1 hk);cases hn:eU n
   ·have HN:=hide (fun w1=>aS n false w1 hn);have HP:=hide (show R=(false&&false&&false&&kN ⟨mK,mF,mT,mI,mL,mk,mN⟩) by rw [←ah HR];simp[cZ,ho,hk,hn]);exact LY
   ·have HN:=hide (fun w1=>aS n true w1 hn);have HP:=hide (show R=(false&&false&&true&&kN ⟨mK,mF,mT,mI,mL,mk,mN⟩) by rw [←ah HR];simp[cZ,ho,hk,hn]);exact LY
  ·have HK:=hide (fun w1=>gJ k true w1 hk);cases hn:eU n
   ·have HN:=hide (fun w1=>aS n false w1 hn);have HP:=hide (show R=(false&&true&&false&&kN ⟨mK,mF,mT,mI,mL,mk,mN⟩) by rw [←ah HR];simp[cZ,ho,hk,hn]);exact LY
   ·have HN:=hide (fun w1=>aS n true w1 hn);have HP:=hide (show R=(false&&true&&true&&kN ⟨mK,mF,mT,mI,mL,mk,mN⟩) by rw [←ah HR];simp[cZ,ho,hk,hn]);exact LY
 ·have HO:=hide (fun w1=>aS no true w1 ho);cases hk:keyOk k.data.toList
  ·have HK:=hide (fun w1=>gJ k false w1 hk);cases hn:eU n
   ·have HN:=hide (fun w1=>aS n false w1 hn);have HP:=hide (show R=(true&&false&&false&&kN ⟨mK,mF,mT,mI,mL,mk,mN⟩) by rw [←ah HR];simp[cZ,ho,hk,hn]);exact LY
   ·have HN:=hide (fun w1=>aS n true w1 hn);have HP:=hide (show R=(true&&false&&true&&kN ⟨mK,mF,mT,mI,mL,mk,mN⟩) by rw [←ah HR];simp[cZ,ho,hk,hn]);exact LY
  ·have HK:=hide (fun w1=>gJ k true w1 hk);cases hn:eU n
   ·have HN:=hide (fun w1=>aS n false w1 hn);have HP:=hide (show R=(true&&true&&false&&kN ⟨mK,mF,mT,mI,mL,mk,mN⟩) by rw [←ah HR];simp[cZ,ho,hk,hn]);exact LY
   ·have HN:=hide (fun w1=>aS n true w1 hn);have HP:=hide (show R=(true&&true&&true&&kN ⟨mK,mF,mT,mI,mL,mk,mN⟩) by rw [←ah HR];simp[cZ,ho,hk,hn]);open alW in exact aal
theorem yI (no:Int) (k:ByteArray) (n:Int) (m:Mg) (w:World):Calls Tryz.prog 44 #[jY ⟨2,no,k,n,m⟩] w fun e w'=>e= .returned (.bool (cZ ⟨2,no,k,n,m⟩))∧Below w.heap.size w w':=by
 obtain⟨mK,mF,mT,mI,mL,mk,mN⟩:=m;obtain⟨R,hR⟩:∃R,cZ ⟨2,no,k,n,⟨mK,mF,mT,mI,mL,mk,mN⟩⟩=R:=⟨_,rfl⟩;rw [hR];have HR:=hide hR;clear hR;cases ho:eU no
 ·have HO:=hide (fun w1=>aS no false w1 ho);have HP:=hide (show R=(decide (k.toList=[])&&decide (n=0)&&false&&kN ⟨mK,mF,mT,mI,mL,mk,mN⟩) by rw [←ah HR];simp[cZ,ho]);clear HR;clear ho;go_enter Tryz.func44,Tryz.ntmps44
  go_wp2_with (first|(go_at_call_of 40 no;refine(HO _).mono ?_;rintro e w1 ⟨rfl,rfl⟩))
  go_ret;exact⟨aD (by rw [ah HP];simp),by first|exact iT w _ _|exact Below.setNew (iT w _ _) (by omega)⟩
 ·have HO:=hide (fun w1=>aS no true w1 ho);have HP:=hide (show R=(decide (k.toList=[])&&decide (n=0)&&true&&kN ⟨mK,mF,mT,mI,mL,mk,mN⟩) by rw [←ah HR];simp[cZ,ho]);clear HR;clear ho;go_enter Tryz.func44,Tryz.ntmps44
  go_upto_region 23 with(first|(go_at_call_of 40 no;refine(HO _).mono ?_;rintro e w1 ⟨rfl,rfl⟩))
  open amT in exact OA
theorem Db (no:Int) (k:ByteArray) (n:Int) (m:Mg) (w:World):Calls Tryz.prog 44 #[jY ⟨5,no,k,n,m⟩] w fun e w'=>e= .returned (.bool (cZ ⟨5,no,k,n,m⟩))∧Below w.heap.size w w':=by
 open ams in exact aav
theorem C9 (no:Int) (k:ByteArray) (n:Int) (m:Mg) (w:World):Calls Tryz.prog 44 #[jY ⟨6,no,k,n,m⟩] w fun e w'=>e= .returned (.bool (cZ ⟨6,no,k,n,m⟩))∧Below w.heap.size w w':=by
 have HM:=hide (fun w1=>Qq m w1);open anm in exact aaL
theorem CZ (K no:Int) (k:ByteArray) (n:Int) (m:Mg) (w:World) (h0:¬K=0) (h1:¬K=1) (h2:¬K=2) (h3:¬K=3) (h4:¬K=4) (h5:¬K=5) (h6:¬K=6):Calls Tryz.prog 44 #[jY ⟨K,no,k,n,m⟩] w fun e w'=>e= .returned (.bool (cZ ⟨K,no,k,n,m⟩))∧Below w.heap.size w w':=by
 have HP:=hide (show cZ ⟨K,no,k,n,m⟩=false by simp[cZ,h0,h1,h2,h3,h4,h5,h6]);obtain⟨mK,mF,mT,mI,mL,mk,mN⟩:=m;go_enter Tryz.func44,Tryz.ntmps44
 go_wp2_with fail;go_ret;exact⟨aD HP.symm,iT w _ _⟩
theorem Vi (o:iK) (w:World):Calls Tryz.prog 44 #[jY o] w fun e w'=>e= .returned (.bool (cZ o))∧Below w.heap.size w w':=by
 obtain⟨K,no,k,n,m⟩:=o;by_cases h0:K=0
 ·subst h0;exact Da no k n m w
 by_cases h1:K=1
 ·subst h1;exact Bz no k n m w
 by_cases h2:K=2
 ·subst h2;exact yI no k n m w
 by_cases h3:K=3
 ·subst h3;exact Dc no k n m w
 by_cases h4:K=4
 ·subst h4;exact CY no k n m w
 by_cases h5:K=5
 ·subst h5;exact Db no k n m w
 by_cases h6:K=6
 ·subst h6;exact C9 no k n m w
 exact CZ K no k n m w h0 h1 h2 h3 h4 h5 h6
end Go.Proofs.YtfmdndhliinhpaaGreatDoor
