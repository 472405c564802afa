/- Parts. -/
import Derived.Test.YtacgbldlonoaaaaGreatDoorRa21
namespace Go.Proofs.YtacgbldlonoaaaaGreatDoor
set_option maxHeartbeats 8000000
set_option maxRecDepth 100000
open Go.RowKit Go.Maps
open Mth
abbrev eZ (w:World) (B:Nat) (m:Mg):Prop:=w.heap[B]?=some (.cells #[.int .i64 m.K,.int .i64 m.F,.int .i64 m.T,.int .i64 m.I,.int .i64 m.L,.string m.k,.int .i64 m.N] 32 (0,0))
theorem Ku {w:World} {j sb mb:Nat} {mm:Mg} {low:Int} (h:eZ w j mm) (hs:jk w sb mb low):j≠sb:=fun e=>by
 unfold eZ at h;unfold jk at hs;rw [e,hs] at h;simp at h
theorem Om {w:World} {j wb:Nat} {mm:Mg} {n:Nd} {A:bE} {v:Value} (h:eZ w j mm) (hs:w.heap[wb]?=some (.cells (FE n A v) 74 (0,0))):j≠wb:=fun e=>by
 unfold eZ at h;rw [e,hs] at h;simp at h
theorem nD {w:World} {j g i q cc:Nat} {mm:Mg} {b:Option Addr} (h:eZ w j mm) (hc:w.cell? ⟨g,i*3+2,none⟩=some (.slice b q cc)):j≠g:=fun e=>by
 subst e;have h1:=cell_of_row w j (i*3+2) _ _ (0,0) h;rw [hc] at h1;rcases i with _|_|i
 ·simp at h1
 ·simp at h1
 ·rw [Array.getElem?_eq_none (by simp;omega)] at h1;cases h1
theorem Sy (s:Sn) (low:Int):max s.l low=dU s low:=by
 unfold dU;split<;>omega
theorem mX.lift {w0 w w':World} {wb sb mb k:Nat} {n:Nd} {A:bE} {G:aU} {c:Nat→Nat} {v:Value} {L:List Mg} {low an5:Int} {l l':List Int} (h:mX w0 w wb sb mb k n A G c v L low l) (hb:jk w' sb mb an5) (hs:eu w' mb k l') (hk:aC [sb,mb] w w'):mX w0 w' wb sb mb k n A G c v L an5 l':=
 ⟨h.wk.kc (KC.keeps hk (fun x hx=>by
  have h2:x=sb∨x=mb:=by simpa using hx
  rcases h2 with rfl|rfl
  ·exact h.cs
  ·exact h.cm)) (by omega),hb,hs,h.cs,h.cm⟩
theorem OZ (w0 w:World) (wb:Nat) (n:Nd) (A:bE) (G:aU) (c:Nat→Nat) (v:Value) (L:List Mg) (m:Mg) (E:Nat→Addr) (i:Nat) (s0:Sn) (TT:Nd×Bool) (hi:i < n.seen.length) (hie:gF n.seen m.F=i) (hs0:n.seen[i]=s0) (hTT:takeN n m=TT) (hsl:n.seen.length≤1000) (hsn:qz s0=true) (hz:eH n 1048576) (hk:m.k.size≤1048576) (hL1:m.L≤1000000000) (hI0:0≤m.I) (hI1:m.I≤1000000000) (h:WK w0 w wb n A G c v L) (he:gW w0 E):
 Calls Tryz.prog 170 #[.pointer (some ⟨wb,0,none⟩),nX m] w fun e w'=>e= .returned (.bool TT.2)∧(∃A' G' c',WK w0 w' wb TT.1 A' G' c' v L)∧∀j mm,eZ w j mm→eZ w' j mm:=by
 have Uo:=hide (fun B w1 (ha:jL w1 A.s n.seen) hB=>VE A.s A.cs n.seen B m w1 hsl ha hB (by rw [hie];exact hi));rw [hie] at Uo;have HTH:Hid (nU s0 m.L m.I=true→_):=fun h=>hTT.symm.trans (Du hi hie hs0 h)
 have Ph:Hid (nU s0 m.L m.I=false→jN n s0 m=true→_):=fun h hg=>hTT.symm.trans (AA hi hie hs0 h hg)
 have HTN:Hid (nU s0 m.L m.I=false→jN n s0 m=false→_):=fun h hg=>hTT.symm.trans (Jf hi hie hs0 h hg)
 have yj:=hide (oC (Em hsn hL1));have UR:=hide (oC hsn);have HMX:=hide (Sy s0 m.L);have HGS:=hide (fun w sb mb k A G c low l hkk hnd hf h=>Jl w0 w wb sb mb k n A G c v L m low l E hz hk hI0 hI1 hkk hnd hf h he);have HGF:=hide (fun w sb mb k A G c low l hnd hf h=>Jk w0 w wb sb mb k n A G c v L m low l hnd hf h);have HS0:=hide hs0;clear hz hk he hsn hL1 hTT hie hs0;have HW:=hide h;obtain⟨mK,mF,mT,mI,mL,mk,mN⟩:=m;dsimp only at *;open agI in exact aaQ
theorem TL (w0 w:World) (wb:Nat) (n:Nd) (A:bE) (G:aU) (c:Nat→Nat) (v:Value) (L:List Mg) (m:Mg) (E:Nat→Addr) (hz:eH n 1048576) (hok:dG n=true) (hF:dB n m.F=true) (hk:m.k.size≤1048576) (hL1:m.L≤1000000000) (hI0:0≤m.I) (hI1:m.I≤1000000000) (h:WK w0 w wb n A G c v L) (he:gW w0 E):
 Calls Tryz.prog 170 #[.pointer (some ⟨wb,0,none⟩),nX m] w fun e w'=>e= .returned (.bool (takeN n m).2)∧(∃A' G' c',WK w0 w' wb (takeN n m).1 A' G' c' v L)∧∀j mm,eZ w j mm→eZ w' j mm:=by
 obtain⟨hi,hif⟩:=Ai hok hF;have hsn:=vW hok _ (List.getElem_mem hi)
 have hsl:n.seen.length≤1000:=by
  exact amZ
 exact OZ w0 w wb n A G c v L m E _ _ _ hi rfl rfl rfl hsl hsn hz hk hL1 hI0 hI1 h he
end Go.Proofs.YtacgbldlonoaaaaGreatDoor
