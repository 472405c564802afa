/- Parts. -/
import Derived.Test.YtppmcficiphgdaaGreatDoorQa1
import Derived.Test.YtppmcficiphgdaaGreatDoorQb8
import Derived.Test.YtppmcficiphgdaaGreatDoorQb6
import Derived.Test.YtppmcficiphgdaaGreatDoorQbZ3
namespace Go.Proofs.YtppmcficiphgdaaGreatDoor
set_option maxHeartbeats 16000000
set_option maxRecDepth 100000
open Go.RowKit
open Mth
def col5 (gi:Nat) (ids:List Int) (c:Nat→Nat):Nat→Nat:=fun x=>if x∈fp gi ids then 5 else c x
theorem col5_in {gi x:Nat} {ids:List Int} {c:Nat→Nat} (h:x∈fp gi ids):col5 gi ids c x=5:=if_pos h
theorem col5_out {gi x:Nat} {ids:List Int} {c:Nat→Nat} (h:x∉fp gi ids):col5 gi ids c x=c x:=if_neg h
theorem NO.seenPut {w:World} {B:Nat} {n:Nd} {A:Ads} {G:Blks} {c:Nat→Nat} (h:NO w B n A G c) (k:Nat) (hk:k < n.seen.length) (s:Sn) (b:Option Addr) (cc gi:Nat) (hi:GR.W encNum 1 w b gi s.ids) (h9:∀x∈fp gi s.ids,c x=9):
 NO (GR.setW w G.s (k*3) [.int .i64 s.f,.int .i64 s.l,.slice b s.ids.length cc]) B (setSeen n (n.seen.set k s)) A ⟨G.k,G.p,G.o,G.s,G.r,setI G.i k gi⟩ (col5 gi s.ids c):=by
 have c4:c G.s=4:=h.c4 G.s (fp_mem (by omega));have hkc:KC c 4 w (GR.setW w G.s (k*3) [.int .i64 s.f,.int .i64 s.l,.slice b s.ids.length cc]):=KC.setW _ c4;have hlen:(n.seen.set k s).length=n.seen.length:=List.length_set ..;have same:∀x,c x≠9→col5 gi s.ids c x=c x:=fun x hx=>col5_out (fun hm=>hx (h9 x hm))
 refine⟨hkc.w h.k h.ck (by omega),hkc.w h.p h.cp (by omega),hkc.own h.o h.co (by omega),?_,hkc.own h.r h.cr (by omega),?_,?_,?_,?_,?_,?_,?_,?_⟩
 ·refine h.s.store k hk s b cc gi hi (fun x hx e=>?_) (fun x hx e=>?_)
  ·have:=h.ci x hx;rw [e,c4] at this;omega
  ·have:=h9 x hx;rw [e,c4] at this;omega
 ·intro x hx;have:=h.lo x hx;rw [same x (by omega)];exact this
 ·intro x hx;have:=h.ck x hx;rw [same x (by omega)];exact this
 ·intro x hx;have:=h.cp x hx;rw [same x (by omega)];exact this
 ·intro x hx;have:=h.co x hx;rw [same x (by omega)];exact this
 ·intro x hx;have hx':x∈fp G.s n.seen:=by rw [←fp_len hlen];exact hx
  have:=h.c4 x hx';rw [same x (by omega)];exact this
 ·intro x hx;obtain⟨i,hi',rfl,hpos⟩:=of_fpI hx;by_cases e:i=k
  ·subst e
   have hpos':0 < s.ids.length:=by
    simp only[setSeen] at hpos;rw [List.getElem_set_self] at hpos;exact hpos
   have e:setI G.i i gi i=gi:=if_pos rfl;show col5 gi s.ids c (setI G.i i gi i)=5
   rw [e];exact col5_in (fp_mem hpos')
  ·have e':setI G.i k gi i=G.i i:=if_neg e;show col5 gi s.ids c (setI G.i k gi i)=5
   rw [e']
   have hpos':0 < (n.seen[i]'(by simpa [setSeen] using hi')).ids.length:=by
    simp only[setSeen] at hpos;rw [List.getElem_set_ne (by omega)] at hpos;exact hpos
   have:=h.ci _ (fpI_mem (by simpa [setSeen] using hi') _ (fp_mem hpos'));rw [same _ (by omega)];exact this
 ·intro x hx;have:=h.cr x hx;rw [same x (by omega)];exact this
 ·refine(fpI_nodup _ _).2 (fun i j hi' hj' hij h1 h2=>?_);have hni:=(fpI_nodup _ _).1 h.ni;simp only[setSeen] at hi' hj' h1 h2;have hi2:i < n.seen.length:=by simpa using hi'
  have hj2:j < n.seen.length:=by simpa using hj'
  dsimp only[setI];by_cases e1:i=k
  ·by_cases e2:j=k
   ·omega
   ·rw [if_pos e1,if_neg e2];subst e1;rw [List.getElem_set_self] at h1;rw [List.getElem_set_ne (by omega)] at h2;intro e;have a1:=h9 gi (fp_mem h1);have a2:=h.ci _ (fpI_mem hj2 _ (fp_mem h2));rw [←e] at a2;omega
  ·rw [if_neg e1];rw [List.getElem_set_ne (by omega)] at h1;by_cases e2:j=k
   ·rw [if_pos e2];subst e2;rw [List.getElem_set_self] at h2;intro e;have a1:=h9 gi (fp_mem h2);have a2:=h.ci _ (fpI_mem hi2 _ (fp_mem h1));rw [e] at a2;omega
   ·rw [if_neg e2];rw [List.getElem_set_ne (by omega)] at h2;exact hni i j hi2 hj2 hij h1 h2
def idsTo (s:Sn) (low:Int) (k:Nat):List Int:=(s.ids.take k).filter (fun x=>decide (lowS s low≤x))
theorem idsTo_all (s:Sn) (low:Int):idsTo s low s.ids.length=idsS s low:=by unfold idsTo idsS;rw [List.take_length]
theorem idsTo_yes (s:Sn) (low:Int) (k:Nat) (hk:k < s.ids.length) (h:lowS s low≤s.ids[k]):idsTo s low (k+1)=idsTo s low k++[s.ids[k]]:=by
 unfold idsTo;rw [List.take_succ_eq_append_getElem hk,List.filter_append,List.filter_cons_of_pos (by simpa using h)];rfl
theorem idsTo_no (s:Sn) (low:Int) (k:Nat) (hk:k < s.ids.length) (h:¬lowS s low≤s.ids[k]):idsTo s low (k+1)=idsTo s low k:=by
 unfold idsTo;rw [List.take_succ_eq_append_getElem hk,List.filter_append,List.filter_cons_of_neg (by simpa using h)];simp
theorem idsTo_len (s:Sn) (low:Int) (k:Nat):(idsTo s low k).length≤k:=by
 unfold idsTo;exact Nat.le_trans (List.length_filter_le _ _) (by rw [List.length_take];omega)
theorem own_drewN_alloc {w:World} {q:Nat} {B:Nat} {e:TypeId} {sz n:Nat} {v:Value} {xs:List Value} {o:Obj} (h:w.ownsRow B e sz v n xs):((w.drewN q).alloc o).ownsRow B e sz v n xs:=World.ownsRow.alloc (w:=w.drewN q) h o
theorem W_own {α:Type} {en:α→List Value} {sz B:Nat} {w:World} {e:TypeId} {g cp:Nat} {l:List α} (hs:∀x,(en x).length=sz) (h:w.ownsRow B e sz (.slice (some ⟨g,0,none⟩) l.length cp) l.length (GR.flat en l)):GR.W en sz w (some ⟨g,0,none⟩) g l:=fun i hi=>by
 obtain⟨a,c',g',hv,hW,_,ho⟩:=GR.W.of_own hs h;simp only[Value.slice.injEq] at hv;obtain⟨rfl,_,_⟩:=hv;have hg:=ho g' (fp_mem (by omega));simp[Value.ownBlock] at hg;subst hg;exact hW i hi
theorem ack_at {w W' W'':World} {c:Nat→Nat} {ab:Nat} {a0 a1 a2 a3 a4:Int} {a5:ByteArray} {a6:Int} (h:W'.heap[ab]?=some (.cells #[.int .i64 a0,.int .i64 a1,.int .i64 a2,.int .i64 a3,.int .i64 a4,.string a5,.int .i64 a6] 32 (0,0))) (ho:Out c w W' W'') (hab:w.heap.size≤ab):GR.At encM 7 W'' (some ⟨ab,0,none⟩) [⟨a0,a1,a2,a3,a4,a5,a6⟩]:=fun i hi=>by
 obtain⟨F,hk2,hF⟩:=ho;have hm2:=hk2.obj h (fun hx=>by have:=(hF ab hx).1;omega);refine⟨ab,0,rfl,obj_lt hm2,fun j hj=>?_⟩;have hi0:i=0:=by simp at hi;omega
 subst hi0;have h1:=cell_of_row W'' ab (0+(0*7+j)) _ _ (0,0) hm2;rw [h1];simp[encM]
theorem flatNum_one (l:List Int):∀u∈GR.flat encNum l,u.oneCell'=true:=GR.flat_oneCell (fun y u hu=>by simp at hu;subst hu;rfl) l
theorem own_keep {w w':World} {F:List Nat} {B:Nat} {e:TypeId} {sz n:Nat} {v:Value} {xs:List Value} (h:w.ownsRow B e sz v n xs) (hk:KeepsL F w w') (hF:∀x,v.ownBlock=some x→x∉F):w'.ownsRow B e sz v n xs:=by
 refine⟨h.1,?_⟩;rcases h.2 with hn|⟨g,cap,cur,rfl,hb,hgg,rest⟩
 ·exact .inl hn
 ·exact .inr ⟨g,cap,cur,rfl,hb,hk.obj hgg (hF g rfl),rest⟩
theorem tw_le (l:List Int) (p:Int→Bool):(l.takeWhile p).length≤l.length:=(List.takeWhile_prefix p).length_le
theorem insI_pos (l:List Int) (x:Int):insI l x=l.take (l.takeWhile (fun y=>decide (y < x))).length++([x]++l.drop (l.takeWhile (fun y=>decide (y < x))).length):=by
 have h:=List.takeWhile_append_dropWhile (p:=fun y=>decide (y < x)) (l:=l);unfold insI;generalize l.takeWhile (fun y=>decide (y < x))=a at *;generalize l.dropWhile (fun y=>decide (y < x))=b at *;subst h;simp
theorem tw_len {x:Int}:∀{l:List Int} {j:Nat},j≤l.length→(∀i (hi:i < l.length),i < j→l[i] < x)→(∀hj:j < l.length,¬l[j] < x)→(l.takeWhile (fun y=>decide (y < x))).length=j:=by
 intro l;induction l with
 |nil=>intro j hj _ _;simp at hj;simp[hj]
 |cons a l ih=>
  intro j hj h1 h2
  cases j with
  |zero=>
   have:=h2 (by simp)
   rw [List.takeWhile_cons_of_neg (by simpa using this)]
   rfl
  |succ j=>
   have h0:=h1 0 (by simp) (by omega)
   rw [List.takeWhile_cons_of_pos (by simpa using h0),List.length_cons,ih (by simpa using hj) (fun i hi hij=>h1 (i+1) (by simpa using hi) (by omega)) (fun hj'=>h2 (by simpa using hj'))]
theorem threeC {w:World} {g:Nat} {v0 v1 v2:Value} {t:TypeId} (h:w.heap[g]?=some (.cells #[v0,v1,v2] t (0,0))):w.cell? ⟨g,0,none⟩=some v0∧w.cell? ⟨g,1,none⟩=some v1∧w.cell? ⟨g,2,none⟩=some v2:=
 ⟨by rw [cell_of_row w g _ _ t (0,0) h];rfl,by rw [cell_of_row w g _ _ t (0,0) h];rfl,by rw [cell_of_row w g _ _ t (0,0) h];rfl⟩
theorem obj_lt_W {w:World} {a:Option Addr} {g:Nat} {I:Nat→Nat} {l:List Sn} (h:SeenW w a g I l) (hl:0 < l.length):g < w.heap.size:=by
 obtain⟨b,c,_,hg,_⟩:=SeenW.three h 0 hl;exact hg
theorem specTake_has (n:Nd) (a_k a_p a_o a_s a_r:Option Addr) (a_ck a_cp a_co a_cs a_cr:Nat) (G:Blks) (c:Nat→Nat) (mK mF mT mI mL:Int) (mk:ByteArray) (mN:Int) (w:World) (B:Nat) (hB:B≤w.heap.size) (h9:∀x,6 < c x→c x=9) (i:Nat) (hi:i < n.seen.length) (s0:Sn) (hs0:n.seen[i]=s0) (hfi:s0.f=mF) (hbef:∀x (hx:x < n.seen.length),x < i→n.seen[x].f≠mF) (hsl:n.seen.length≤1000) (hil:s0.ids.length≤1000) (hhas:hasS s0 mL mI=true) (h:NO w B n (⟨a_k,a_p,a_o,a_s,a_r,a_ck,a_cp,a_co,a_cs,a_cr⟩:Ads) G c):Calls Tryz.prog 135 #[ndv n (⟨a_k,a_p,a_o,a_s,a_r,a_ck,a_cp,a_co,a_cs,a_cr⟩:Ads),.agg #[.int .i64 mK,.int .i64 mF,.int .i64 mT,.int .i64 mI,.int .i64 mL,.string mk,.int .i64 mN]] w (GivesT w B c (setSeen n (n.seen.set i ⟨mF,lowS s0 mL,idsS s0 mL⟩),[⟨2,n.id,mF,mI,0,ByteArray.empty,0⟩],0)):=by
 open Sb324 in exact Yb107
theorem specTake_no (n:Nd) (a_k a_p a_o a_s a_r:Option Addr) (a_ck a_cp a_co a_cs a_cr:Nat) (G:Blks) (c:Nat→Nat) (mK mF mT mI mL:Int) (mk:ByteArray) (mN:Int) (w:World) (B:Nat) (hB:B≤w.heap.size) (h9:∀x,6 < c x→c x=9) (i:Nat) (hi:i < n.seen.length) (s0:Sn) (hs0:n.seen[i]=s0) (hfi:s0.f=mF) (hbef:∀x (hx:x < n.seen.length),x < i→n.seen[x].f≠mF) (hsl:n.seen.length≤1000) (hil:s0.ids.length≤1000) (hz:NdSz n 1048576) (hmk:mk.size≤1048576) (hP:∃g,a_p=some ⟨g,0,none⟩) (hPc:n.pu.length≤a_cp) (RL:List Pu) (ok:Bool) (hu:addP n.pu mk 0 1 0 mN=(RL,ok)) (hhas:hasS s0 mL mI=false) (hgn:ok=false∨40≤(idsS s0 mL).length) (h:NO w B n (⟨a_k,a_p,a_o,a_s,a_r,a_ck,a_cp,a_co,a_cs,a_cr⟩:Ads) G c):Calls Tryz.prog 135 #[ndv n (⟨a_k,a_p,a_o,a_s,a_r,a_ck,a_cp,a_co,a_cs,a_cr⟩:Ads),.agg #[.int .i64 mK,.int .i64 mF,.int .i64 mT,.int .i64 mI,.int .i64 mL,.string mk,.int .i64 mN]] w (GivesT w B c (setSeen n (n.seen.set i ⟨mF,lowS s0 mL,idsS s0 mL⟩),[],1)):=by
 open Sb150 in exact Yb37
theorem specTake_gain (n:Nd) (a_k a_p a_o a_s a_r:Option Addr) (a_ck a_cp a_co a_cs a_cr:Nat) (G:Blks) (c:Nat→Nat) (mK mF mT mI mL:Int) (mk:ByteArray) (mN:Int) (w:World) (B:Nat) (hB:B≤w.heap.size) (h9:∀x,6 < c x→c x=9) (i:Nat) (hi:i < n.seen.length) (s0:Sn) (hs0:n.seen[i]=s0) (hfi:s0.f=mF) (hbef:∀x (hx:x < n.seen.length),x < i→n.seen[x].f≠mF) (hsl:n.seen.length≤1000) (hil:s0.ids.length≤1000) (hz:NdSz n 1048576) (hmk:mk.size≤1048576) (hP:∃g,a_p=some ⟨g,0,none⟩) (hPc:n.pu.length≤a_cp) (RL:List Pu) (hu:addP n.pu mk 0 1 0 mN=(RL,true)) (hhas:hasS s0 mL mI=false) (hgn:(idsS s0 mL).length < 40) (h:NO w B n (⟨a_k,a_p,a_o,a_s,a_r,a_ck,a_cp,a_co,a_cs,a_cr⟩:Ads) G c):Calls Tryz.prog 135 #[ndv n (⟨a_k,a_p,a_o,a_s,a_r,a_ck,a_cp,a_co,a_cs,a_cr⟩:Ads),.agg #[.int .i64 mK,.int .i64 mF,.int .i64 mT,.int .i64 mI,.int .i64 mL,.string mk,.int .i64 mN]] w (GivesT w B c (setSeen (setPu n RL) (n.seen.set i ⟨mF,lowS s0 mL,insI (idsS s0 mL) mI⟩),[⟨2,n.id,mF,mI,0,ByteArray.empty,0⟩],0)):=by
 open Sb149 in exact Yb37
end Go.Proofs.YtppmcficiphgdaaGreatDoor
