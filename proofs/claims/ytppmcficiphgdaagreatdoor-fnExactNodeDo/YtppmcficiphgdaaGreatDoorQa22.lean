/-
  NdTake2.
-/
import Derived.Test.YtppmcficiphgdaaGreatDoorQa1
import Derived.Test.YtppmcficiphgdaaGreatDoorQa20
import Derived.Test.YtppmcficiphgdaaGreatDoorQaZ3
namespace Go.Proofs.YtppmcficiphgdaaGreatDoor
set_option maxHeartbeats 8000000
set_option maxRecDepth 100000
open Go.RowKit Go.Maps
open Mth
abbrev msgB (w:World) (B:Nat) (m:Mg):Prop:=w.heap[B]?=some (.cells #[.int .i64 m.K,.int .i64 m.F,.int .i64 m.T,.int .i64 m.I,.int .i64 m.L,.string m.k,.int .i64 m.N] 32 (0,0))
theorem msg_ne_set {w:World} {j sb mb:Nat} {mm:Mg} {low:Int} (h:msgB w j mm) (hs:setBlk w sb mb low):j≠sb:=fun e=>by
 unfold msgB at h;unfold setBlk at hs;rw [e,hs] at h;simp at h
theorem msg_ne_wk {w:World} {j wb:Nat} {mm:Mg} {n:Nd} {A:Ads} {v:Value} (h:msgB w j mm) (hs:w.heap[wb]?=some (.cells (wkc n A v) 74 (0,0))):j≠wb:=fun e=>by
 unfold msgB at h;rw [e,hs] at h;simp at h
theorem msg_ne_seen {w:World} {j g i q cc:Nat} {mm:Mg} {b:Option Addr} (h:msgB w j mm) (hc:w.cell? ⟨g,i*3+2,none⟩=some (.slice b q cc)):j≠g:=fun e=>by
 subst e;have h1:=cell_of_row w j (i*3+2) _ _ (0,0) h;rw [hc] at h1;rcases i with _|_|i
 ·simp at h1
 ·simp at h1
 ·rw [Array.getElem?_eq_none (by simp;omega)] at h1;cases h1
theorem lowS_max (s:Sn) (low:Int):max s.l low=lowS s low:=by
 unfold lowS;split<;>omega
theorem WSet.lift {w0 w w':World} {wb sb mb k:Nat} {n:Nd} {A:Ads} {G:Blks} {c:Nat→Nat} {v:Value} {L:List Mg} {low low':Int} {l l':List Int} (h:WSet w0 w wb sb mb k n A G c v L low l) (hb:setBlk w' sb mb low') (hs:SetIs w' mb k l') (hk:KeepsL [sb,mb] w w'):WSet w0 w' wb sb mb k n A G c v L low' l':=
 ⟨h.wk.kc (KC.keeps hk (fun x hx=>by
  have h2:x=sb∨x=mb:=by simpa using hx
  rcases h2 with rfl|rfl
  ·exact h.cs
  ·exact h.cm)) (by omega),hb,hs,h.cs,h.cm⟩
theorem takeN_has {n:Nd} {m:Mg} {i:Nat} {s0:Sn} (hi:i < n.seen.length) (e:seenI n.seen m.F=i) (hs:n.seen[i]=s0) (h:hasS s0 m.L m.I=true):takeN n m=(setSeen n (n.seen.set i ⟨m.F,lowS s0 m.L,idsS s0 m.L⟩),true):=by
 subst e hs;unfold takeN;rw [sn_getD hi,if_pos h]
theorem takeN_gain {n:Nd} {m:Mg} {i:Nat} {s0:Sn} (hi:i < n.seen.length) (e:seenI n.seen m.F=i) (hs:n.seen[i]=s0) (h:hasS s0 m.L m.I=false) (hg:gainB n s0 m=true):takeN n m=(setSeen (setPu n (addP n.pu m.k 0 1 0 m.N).1) (n.seen.set i ⟨m.F,lowS s0 m.L,insI (idsS s0 m.L) m.I⟩),true):=by
 subst e hs;unfold takeN;rw [sn_getD hi,if_neg (by rw [h];simp),if_pos hg]
theorem takeN_no {n:Nd} {m:Mg} {i:Nat} {s0:Sn} (hi:i < n.seen.length) (e:seenI n.seen m.F=i) (hs:n.seen[i]=s0) (h:hasS s0 m.L m.I=false) (hg:gainB n s0 m=false):takeN n m=(setSeen n (n.seen.set i ⟨m.F,lowS s0 m.L,idsS s0 m.L⟩),false):=by
 subst e hs;unfold takeN;rw [sn_getD hi,if_neg (by rw [h];simp),if_neg (by rw [hg];simp)]
theorem wkTake_at (w0 w:World) (wb:Nat) (n:Nd) (A:Ads) (G:Blks) (c:Nat→Nat) (v:Value) (L:List Mg) (m:Mg) (E:Nat→Addr) (i:Nat) (s0:Sn) (TT:Nd×Bool) (hi:i < n.seen.length) (hie:seenI n.seen m.F=i) (hs0:n.seen[i]=s0) (hTT:takeN n m=TT) (hsl:n.seen.length≤1000) (hsn:snB s0=true) (hz:NdSz n 1048576) (hk:m.k.size≤1048576) (hL1:m.L≤1000000000) (hI0:0≤m.I) (hI1:m.I≤1000000000) (h:WK w0 w wb n A G c v L) (he:Errs w0 E):
 Calls Tryz.prog 168 #[.pointer (some ⟨wb,0,none⟩),mgv m] w fun e w'=>e= .returned (.bool TT.2)∧(∃A' G' c',WK w0 w' wb TT.1 A' G' c' v L)∧∀j mm,msgB w j mm→msgB w' j mm:=by
 have HIX:=hide (fun B w1 (ha:SeenAt w1 A.s n.seen) hB=>idxSeen A.s A.cs n.seen B m w1 hsl ha hB (by rw [hie];exact hi));rw [hie] at HIX;have HTH:Hid (hasS s0 m.L m.I=true→_):=fun h=>hTT.symm.trans (takeN_has hi hie hs0 h)
 have HTG:Hid (hasS s0 m.L m.I=false→gainB n s0 m=true→_):=fun h hg=>hTT.symm.trans (takeN_gain hi hie hs0 h hg)
 have HTN:Hid (hasS s0 m.L m.I=false→gainB n s0 m=false→_):=fun h hg=>hTT.symm.trans (takeN_no hi hie hs0 h hg)
 have HIDS:=hide (snB_parts (idsS_ok hsn hL1));have HSNP:=hide (snB_parts hsn);have HMX:=hide (lowS_max s0 m.L);have HGS:=hide (fun w sb mb k A G c low l hkk hnd hf h=>wkGain_some w0 w wb sb mb k n A G c v L m low l E hz hk hI0 hI1 hkk hnd hf h he);have HGF:=hide (fun w sb mb k A G c low l hnd hf h=>wkGain_full w0 w wb sb mb k n A G c v L m low l hnd hf h);have HS0:=hide hs0;clear hz hk he hsn hL1 hTT hie hs0;have HW:=hide h;obtain⟨mK,mF,mT,mI,mL,mk,mN⟩:=m;dsimp only at *;open Sa133 in exact Ya30
theorem wkTake (w0 w:World) (wb:Nat) (n:Nd) (A:Ads) (G:Blks) (c:Nat→Nat) (v:Value) (L:List Mg) (m:Mg) (E:Nat→Addr) (hz:NdSz n 1048576) (hok:ndOk n=true) (hF:nearB n m.F=true) (hk:m.k.size≤1048576) (hL1:m.L≤1000000000) (hI0:0≤m.I) (hI1:m.I≤1000000000) (h:WK w0 w wb n A G c v L) (he:Errs w0 E):
 Calls Tryz.prog 168 #[.pointer (some ⟨wb,0,none⟩),mgv m] w fun e w'=>e= .returned (.bool (takeN n m).2)∧(∃A' G' c',WK w0 w' wb (takeN n m).1 A' G' c' v L)∧∀j mm,msgB w j mm→msgB w' j mm:=by
 obtain⟨hi,hif⟩:=seenI_lt hok hF;have hsn:=seen_mem hok _ (List.getElem_mem hi)
 have hsl:n.seen.length≤1000:=by
  have h1:=(ndOk_parts hok).1;have h2:=(ndOk_parts hok).2.2.1;have h3:=nbrs_length h1;rw [told_eq h1,Bool.and_eq_true,decide_eq_true_eq] at h2;have h4:=congrArg List.length h2.1;rw [List.length_map,srt_length] at h4;unfold placeB at h1;simp only[Bool.and_eq_true,decide_eq_true_eq] at h1;split at h3<;>omega
 exact wkTake_at w0 w wb n A G c v L m E _ _ _ hi rfl rfl rfl hsl hsn hz hk hL1 hI0 hI1 h he
end Go.Proofs.YtppmcficiphgdaaGreatDoor
