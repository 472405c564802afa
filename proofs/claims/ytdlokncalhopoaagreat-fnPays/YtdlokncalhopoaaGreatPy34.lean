/- Parts. -/
import Derived.Test.YtdlokncalhopoaaGreatPy33
import Derived.Test.YtdlokncalhopoaaGreatPy27
import Derived.Test.YtdlokncalhopoaaGreatPy22
namespace Go.Proofs.YtdlokncalhopoaaGreat
set_option maxHeartbeats 16000000
set_option maxRecDepth 100000
open Go.RowKit
open Mth
def col5 (gi:Nat) (ids:List Int) (c:Nat→Nat):Nat→Nat:=fun x=>if x∈fp gi ids then 5 else c x
theorem col5_in {gi x:Nat} {ids:List Int} {c:Nat→Nat} (h:x∈fp gi ids):col5 gi ids c x=5:=if_pos h
theorem col5_out {gi x:Nat} {ids:List Int} {c:Nat→Nat} (h:x∉fp gi ids):col5 gi ids c x=c x:=if_neg h
theorem SeenQ.store {w:World} {a:Option Addr} {g:Nat} {I:Nat→Nat} {l:List Sn} (h:SeenQ w a g I l) (k:Nat) (hk:k < l.length) (s:Sn) (b:Option Addr) (cc gi:Nat) (hi:WO w b cc gi s.ids) (hg4:∀x∈fpI I l,x≠g) (hgi:∀x∈fp gi s.ids,x≠g):
 SeenQ (GR.setW w g (k*3) [.int .i64 s.f,.int .i64 s.l,.slice b s.ids.length cc]) a g (setI I k gi) (l.set k s):=by
 obtain⟨⟨T,hT,hl,hr⟩,hy⟩:=h
 have hkT:k < T.length:=by omega
 have hkp:=setW_keeps (g:=g) [.int .i64 s.f,.int .i64 s.l,.slice b s.ids.length cc] w (k*3)
 refine⟨⟨T.set k ⟨s.f,s.l,.slice b s.ids.length cc⟩,GR.W.set encR3_length hT k ⟨s.f,s.l,.slice b s.ids.length cc⟩ hkT,by simpa using hl,fun i hi'=>?_⟩,fun _=>by
  obtain⟨cs,hc⟩:=hy (by omega)
  exact⟨_,GR.setW_blk [.int .i64 s.f,.int .i64 s.l,.slice b s.ids.length cc] (o:=k*3) (xs:=cs.toList) (by simpa using hc)⟩⟩
 have hil:i < l.length:=by simpa using hi'
 by_cases e:i=k
 ·subst e
  refine⟨b,cc,?_,?_⟩
  ·rw [List.getElem_set_self,List.getElem?_set_self hkT]
  ·rw [List.getElem_set_self]
   unfold setI
   rw [if_pos rfl]
   exact hi.keeps hkp (fun x hx=>by simpa using hgi x hx)
 ·obtain⟨b',c',ht,hi2⟩:=hr i hil
  refine⟨b',c',?_,?_⟩
  ·rw [List.getElem_set_ne (by omega),List.getElem?_set_ne (by omega)]
   exact ht
  ·rw [List.getElem_set_ne (by omega)]
   unfold setI
   rw [if_neg e]
   exact hi2.keeps hkp (fun x hx=>by simpa using hg4 x (fpI_mem hil x hx))
theorem NQ.seenPut {w:World} {B:Nat} {n:Nd} {A:Ads} {G:Blks} {c:Nat→Nat} (h:NQ w B n A G c) (k:Nat) (hk:k < n.seen.length) (s:Sn) (b:Option Addr) (cc gi:Nat) (hi:WO w b cc gi s.ids) (h9:∀x∈fp gi s.ids,c x=9):
 NQ (GR.setW w G.s (k*3) [.int .i64 s.f,.int .i64 s.l,.slice b s.ids.length cc]) B (setSeen n (n.seen.set k s)) A ⟨G.k,G.p,G.o,G.s,G.r,setI G.i k gi⟩ (col5 gi s.ids c):=by
 have c4:c G.s=4:=h.c4 G.s (fp_mem (by omega))
 have hkc:KC c 4 w (GR.setW w G.s (k*3) [.int .i64 s.f,.int .i64 s.l,.slice b s.ids.length cc]):=KC.setW _ c4
 have hlen:(n.seen.set k s).length=n.seen.length:=List.length_set ..
 have same:∀x,c x≠9→col5 gi s.ids c x=c x:=fun x hx=>col5_out (fun hm=>hx (h9 x hm))
 have hSQ:SeenQ (GR.setW w G.s (k*3) [.int .i64 s.f,.int .i64 s.l,.slice b s.ids.length cc]) A.s G.s (setI G.i k gi) (n.seen.set k s):=by
  refine h.sq.store k hk s b cc gi hi (fun x hx e=>?_) (fun x hx e=>?_)
  ·have:=h.ci x hx;rw [e,c4] at this;omega
  ·have:=h9 x hx;rw [e,c4] at this;omega
 refine⟨⟨hkc.w h.k h.ck (by omega),hkc.w h.p h.cp (by omega),hkc.own h.o h.co (by omega),hSQ.w,hkc.own h.r h.cr (by omega),?_,?_,?_,?_,?_,?_,?_,?_⟩,hSQ⟩
 ·intro x hx;have:=h.lo x hx;rw [same x (by omega)];exact this
 ·intro x hx;have:=h.ck x hx;rw [same x (by omega)];exact this
 ·intro x hx;have:=h.cp x hx;rw [same x (by omega)];exact this
 ·intro x hx;have:=h.co x hx;rw [same x (by omega)];exact this
 ·intro x hx
  have hx':x∈fp G.s n.seen:=by rw [←fp_len hlen];exact hx
  have:=h.c4 x hx';rw [same x (by omega)];exact this
 ·intro x hx
  obtain⟨i,hi',rfl,hpos⟩:=of_fpI hx
  by_cases e:i=k
  ·subst e
   have hpos':0 < s.ids.length:=by
    simp only[setSeen] at hpos
    rw [List.getElem_set_self] at hpos
    exact hpos
   have e:setI G.i i gi i=gi:=if_pos rfl
   show col5 gi s.ids c (setI G.i i gi i)=5
   rw [e]
   exact col5_in (fp_mem hpos')
  ·have e':setI G.i k gi i=G.i i:=if_neg e
   show col5 gi s.ids c (setI G.i k gi i)=5
   rw [e']
   have hpos':0 < (n.seen[i]'(by simpa [setSeen] using hi')).ids.length:=by
    simp only[setSeen] at hpos
    rw [List.getElem_set_ne (by omega)] at hpos
    exact hpos
   have:=h.ci _ (fpI_mem (by simpa [setSeen] using hi') _ (fp_mem hpos'))
   rw [same _ (by omega)];exact this
 ·intro x hx;have:=h.cr x hx;rw [same x (by omega)];exact this
 ·refine(fpI_nodup _ _).2 (fun i j hi' hj' hij h1 h2=>?_)
  have hni:=(fpI_nodup _ _).1 h.ni
  simp only[setSeen] at hi' hj' h1 h2
  have hi2:i < n.seen.length:=by simpa using hi'
  have hj2:j < n.seen.length:=by simpa using hj'
  dsimp only[setI]
  by_cases e1:i=k
  ·by_cases e2:j=k
   ·omega
   ·rw [if_pos e1,if_neg e2]
    subst e1
    rw [List.getElem_set_self] at h1
    rw [List.getElem_set_ne (by omega)] at h2
    intro e
    have a1:=h9 gi (fp_mem h1)
    have a2:=h.ci _ (fpI_mem hj2 _ (fp_mem h2))
    rw [←e] at a2
    omega
  ·rw [if_neg e1]
   rw [List.getElem_set_ne (by omega)] at h1
   by_cases e2:j=k
   ·rw [if_pos e2]
    subst e2
    rw [List.getElem_set_self] at h2
    intro e
    have a1:=h9 gi (fp_mem h2)
    have a2:=h.ci _ (fpI_mem hi2 _ (fp_mem h1))
    rw [e] at a2
    omega
   ·rw [if_neg e2]
    rw [List.getElem_set_ne (by omega)] at h2
    exact hni i j hi2 hj2 hij h1 h2
def idsTo (s:Sn) (low:Int) (k:Nat):List Int:=(s.ids.take k).filter (fun x=>decide (lowS s low≤x))
theorem idsTo_all (s:Sn) (low:Int):idsTo s low s.ids.length=idsS s low:=by unfold idsTo idsS;rw [List.take_length]
theorem idsTo_yes (s:Sn) (low:Int) (k:Nat) (hk:k < s.ids.length) (h:lowS s low≤s.ids[k]):idsTo s low (k+1)=idsTo s low k++[s.ids[k]]:=by
 unfold idsTo
 rw [List.take_succ_eq_append_getElem hk,List.filter_append,List.filter_cons_of_pos (by simpa using h)]
 rfl
theorem idsTo_no (s:Sn) (low:Int) (k:Nat) (hk:k < s.ids.length) (h:¬lowS s low≤s.ids[k]):idsTo s low (k+1)=idsTo s low k:=by
 unfold idsTo
 rw [List.take_succ_eq_append_getElem hk,List.filter_append,List.filter_cons_of_neg (by simpa using h)]
 simp
theorem idsTo_len (s:Sn) (low:Int) (k:Nat):(idsTo s low k).length≤k:=by
 unfold idsTo
 exact Nat.le_trans (List.length_filter_le _ _) (by rw [List.length_take];omega)
theorem own_drewN_alloc {w:World} {q:Nat} {B:Nat} {e:TypeId} {sz n:Nat} {v:Value} {xs:List Value} {o:Obj} (h:w.ownsRow B e sz v n xs):((w.drewN q).alloc o).ownsRow B e sz v n xs:=World.ownsRow.alloc (w:=w.drewN q) h o
theorem W_own {α:Type} {en:α→List Value} {sz B:Nat} {w:World} {e:TypeId} {g cp:Nat} {l:List α} (hs:∀x,(en x).length=sz) (h:w.ownsRow B e sz (.slice (some ⟨g,0,none⟩) l.length cp) l.length (GR.flat en l)):GR.W en sz w (some ⟨g,0,none⟩) g l:=fun i hi=>by
 obtain⟨a,c',g',hv,hW,_,ho⟩:=GR.W.of_own hs h
 simp only[Value.slice.injEq] at hv
 obtain⟨rfl,_,_⟩:=hv
 have hg:=ho g' (fp_mem (by omega))
 simp[Value.ownBlock] at hg
 subst hg
 exact hW i hi
theorem ack_at {w W' W'':World} {c:Nat→Nat} {ab:Nat} {a0 a1 a2 a3 a4:Int} {a5:ByteArray} {a6:Int} (h:W'.heap[ab]?=some (.cells #[.int .i64 a0,.int .i64 a1,.int .i64 a2,.int .i64 a3,.int .i64 a4,.string a5,.int .i64 a6] 37 (0,0))) (ho:Out c w W' W'') (hab:w.heap.size≤ab):GR.At encM 7 W'' (some ⟨ab,0,none⟩) [⟨a0,a1,a2,a3,a4,a5,a6⟩]:=fun i hi=>by
 obtain⟨F,hk2,hF⟩:=ho
 have hm2:=hk2.obj h (fun hx=>by have:=(hF ab hx).1;omega)
 refine⟨ab,0,rfl,obj_lt hm2,fun j hj=>?_⟩
 have hi0:i=0:=by simp at hi;omega
 subst hi0
 have h1:=cell_of_row W'' ab (0+(0*7+j)) _ _ (0,0) hm2
 rw [h1]
 simp[encM]
theorem flatNum_one (l:List Int):∀u∈GR.flat encNum l,u.oneCell'=true:=GR.flat_oneCell (fun y u hu=>by simp at hu;subst hu;rfl) l
theorem own_keep {w w':World} {F:List Nat} {B:Nat} {e:TypeId} {sz n:Nat} {v:Value} {xs:List Value} (h:w.ownsRow B e sz v n xs) (hk:KeepsL F w w') (hF:∀x,v.ownBlock=some x→x∉F):w'.ownsRow B e sz v n xs:=by
 refine⟨h.1,?_⟩
 rcases h.2 with hn|⟨g,cap,cur,rfl,hb,hgg,rest⟩
 ·exact .inl hn
 ·exact .inr ⟨g,cap,cur,rfl,hb,hk.obj hgg (hF g rfl),rest⟩
theorem tw_le (l:List Int) (p:Int→Bool):(l.takeWhile p).length≤l.length:=(List.takeWhile_prefix p).length_le
theorem insI_pos (l:List Int) (x:Int):insI l x=l.take (l.takeWhile (fun y=>decide (y < x))).length++([x]++l.drop (l.takeWhile (fun y=>decide (y < x))).length):=by
 have h:=List.takeWhile_append_dropWhile (p:=fun y=>decide (y < x)) (l:=l)
 unfold insI
 generalize l.takeWhile (fun y=>decide (y < x))=a at *
 generalize l.dropWhile (fun y=>decide (y < x))=b at *
 subst h
 simp
theorem tw_len {x:Int}:∀{l:List Int} {j:Nat},j≤l.length→(∀i (hi:i < l.length),i < j→l[i] < x)→(∀hj:j < l.length,¬l[j] < x)→(l.takeWhile (fun y=>decide (y < x))).length=j:=by
 intro l
 induction l with
 |nil=>intro j hj _ _;simp at hj;simp[hj]
 |cons a l ih=>
  intro j hj h1 h2
  cases j with
  |zero=>
   have:=h2 (by simp)
   rw [List.takeWhile_cons_of_neg (by simpa using this)]
   rfl
  |succ j=>
   have h0:=h1 0 (by simp) (by omega)
   rw [List.takeWhile_cons_of_pos (by simpa using h0),List.length_cons,ih (by simpa using hj) (fun i hi hij=>h1 (i+1) (by simpa using hi) (by omega)) (fun hj'=>h2 (by simpa using hj'))]
theorem threeC {w:World} {g:Nat} {v0 v1 v2:Value} {t:TypeId} (h:w.heap[g]?=some (.cells #[v0,v1,v2] t (0,0))):w.cell? ⟨g,0,none⟩=some v0∧w.cell? ⟨g,1,none⟩=some v1∧w.cell? ⟨g,2,none⟩=some v2:=
 ⟨by rw [cell_of_row w g _ _ t (0,0) h];rfl,by rw [cell_of_row w g _ _ t (0,0) h];rfl,by rw [cell_of_row w g _ _ t (0,0) h];rfl⟩
theorem obj_lt_W {w:World} {a:Option Addr} {g:Nat} {I:Nat→Nat} {l:List Sn} (h:SeenW w a g I l) (hl:0 < l.length):g < w.heap.size:=by
 obtain⟨b,c,_,hg,_⟩:=SeenW.three h 0 hl
 exact hg
theorem specTake_has (n:Nd) (a_k a_p a_o a_s a_r:Option Addr) (a_ck a_cp a_co a_cs a_cr:Nat) (G:Blks) (c:Nat→Nat) (mK mF mT mI mL:Int) (mk:ByteArray) (mN:Int) (w:World) (B:Nat) (hB:B≤w.heap.size) (h9:∀x,6 < c x→c x=9) (i:Nat) (hi:i < n.seen.length) (s0:Sn) (hs0:n.seen[i]=s0) (hfi:s0.f=mF) (hbef:∀x (hx:x < n.seen.length),x < i→n.seen[x].f≠mF) (hsl:n.seen.length≤1000) (hil:s0.ids.length≤1000) (hhas:hasS s0 mL mI=true) (h:NQ w B n (⟨a_k,a_p,a_o,a_s,a_r,a_ck,a_cp,a_co,a_cs,a_cr⟩:Ads) G c):Calls Tryz.prog 68 #[ndv n (⟨a_k,a_p,a_o,a_s,a_r,a_ck,a_cp,a_co,a_cs,a_cr⟩:Ads),.agg #[.int .i64 mK,.int .i64 mF,.int .i64 mT,.int .i64 mI,.int .i64 mL,.string mk,.int .i64 mN]] w (GivesT w B c (setSeen n (n.seen.set i ⟨mF,lowS s0 mL,idsS s0 mL⟩),[⟨2,n.id,mF,mI,0,ByteArray.empty,0⟩],0)):=by
 unfold GivesT
 have H9:=hide h9
 clear h9
 have HNO:=hide (h.nine hB)
 have HGS:=hide (h.s)
 have hc4:c G.s=4:=h.c4 G.s (fp_mem (by omega))
 clear h
 go_enter Tryz.func68,Tryz.ntmps68
 go_upto_region 1 with fail
 refine wp_at (fun W0 hW=>?_)
 obtain⟨e1,e2,e3,e4⟩:=allocs3E w (.cells (ndc n (⟨a_k,a_p,a_o,a_s,a_r,a_ck,a_cp,a_co,a_cs,a_cr⟩:Ads)) 30) (.cells #[.int .i64 mK,.int .i64 mF,.int .i64 mT,.int .i64 mI,.int .i64 mL,.string mk,.int .i64 mN] 37) (.cells zc9 30)
 rw [←hW] at e1 e2 e3 e4
 have HN_0:=hide e1
 have HM_0:=hide e2
 have HR_0:=hide e3
 have HB0:=hide e4
 have HNO0:=hide ((unhide HNO).kc (k:=9) (KC.of_below e4) (by omega))
 clear hW e1 e2 e3 e4
 obtain⟨bi,ci,eA,hgs0,⟨t0,t1,t2⟩,_,hWi⟩:=SeenW.three (unhide HNO0).s i hi
 rw [hs0] at t0 t1 t2 hWi
 rw [hfi] at t0
 have hgsl:G.s < w.heap.size:=obj_lt_W (unhide HGS) (by omega)
 have HWI:=hide hWi
 have HT:=hide (And.intro t0 (And.intro t1 t2))
 clear hWi t0 t1 t2
 dsimp only at eA
 subst eA
 obtain⟨c0,c1,c2,c3,c4,c5,c6,c7,c8⟩:=nine (unhide HN_0)
 obtain⟨m0,m1,m2,m3,m4,m5,m6⟩:=sevenC (unhide HM_0)
 have hnl:=obj_lt (unhide HN_0)
 have hml:=obj_lt (unhide HM_0)
 go_upto_block 0 with fail
 go_cut [7] from 15 (fun j wx=>j= .int .i64 (i:Nat)∧Ge W0 wx)
 case first=>
  go_wp2_with fail
  go_loopw [7] (fun j wr=>∃x q:Nat,x≤i∧j= .int .i64 x∧wr=W0.drewN q) (fun j _=>i - (intOf j).toNat)
  case atStart=>exact⟨0,0,Nat.zero_le _,rfl,rfl⟩
  case round=>
   obtain⟨x,q,hx,rfl,rfl⟩:=hrel
   have hxl:x < n.seen.length:=by omega
   obtain⟨b',c',e',hg',⟨u0,_,_⟩,_,_⟩:=SeenW.three (unhide HNO0).s x hxl
   by_cases hxi:x=i
   ·subst hxi
    rw [hs0,hfi] at u0
    have hnn:(mF != mF)=false:=by simp
    go_wp2_with fail
    go_quiet (fail)
    go_wp2_with fail
    go_meet
    case rel=>exact⟨rfl,⟨rfl,rfl,rfl,Nat.le_refl _,fun _ _=>rfl⟩⟩
   ·have hne:=hbef x hxl (by omega)
    generalize n.seen[x].f=fx at *
    have hnn:(fx != mF)=true:=by simpa using hne
    go_wp2_with fail
    go_quiet (fail)
    go_wp2_with fail
    go_roundw
    case rel=>exact⟨x+1,_,by omega,by go_num,rfl⟩
    case measure=>simp[intOf];omega
 case rest=>
  obtain⟨rfl,hge⟩:=hcut
  have HN_1:=hide (obj_step (unhide HN_0) hge)
  have HM_1:=hide (obj_step (unhide HM_0) hge)
  have HR_1:=hide (obj_step (unhide HR_0) hge)
  have HB1:=hide ((unhide HB0).trans (hge.mono (unhide HB0).size))
  have HNO1:=hide ((unhide HNO0).kc (k:=9) (KC.of_below hge) (by omega))
  have HWI1:=hide ((unhide HWI).below hge)
  have hz1:w.heap.size+3≤wc.heap.size:=by have:=obj_lt (unhide HR_1);omega
  obtain⟨t0,t1,t2⟩:=unhide HT
  have u0:=(hge.cell (p:=⟨G.s,i*3,none⟩) hgs0).trans t0
  have u1:=(hge.cell (p:=⟨G.s,i*3+1,none⟩) hgs0).trans t1
  have u2:=(hge.cell (p:=⟨G.s,i*3+2,none⟩) hgs0).trans t2
  clear t0 t1 t2 hge c0 c1 c2 c3 c4 c5 c6 c7 c8 m0 m1 m2 m3 m4 m5 m6 hnl hml HN_0 HM_0 HR_0 HB0 HNO0 HWI HT
  obtain⟨c0,c1,c2,c3,c4,c5,c6,c7,c8⟩:=nine (unhide HN_1)
  have hnl:=obj_lt (unhide HN_1)
  have hisl:(i:Int) < (n.seen.length:Int):=by omega
  go_upto_region 5 with fail
  refine wp_at (fun W2 hW2=>?_)
  have hb2:=below_one wc (.cells #[.int .i64 mF,.int .i64 s0.l,.slice bi s0.ids.length ci] 71)
  have hs2:=heap_alloc_new wc (.cells #[.int .i64 mF,.int .i64 s0.l,.slice bi s0.ids.length ci] 71)
  rw [←hW2] at hb2 hs2
  obtain⟨sb,hsb⟩:∃sb,wc.heap.size=sb:=⟨_,rfl⟩
  rw [hsb] at hs2 hz1
  have HS_2:=hide hs2
  have HN_2:=hide (obj_step (unhide HN_1) hb2)
  have HM_2:=hide (obj_step (unhide HM_1) hb2)
  have HR_2:=hide (obj_step (unhide HR_1) hb2)
  have HB2:=hide ((unhide HB1).trans (hb2.mono (unhide HB1).size))
  have HNO2:=hide ((unhide HNO1).kc (k:=9) (KC.of_below hb2) (by omega))
  have HWI2:=hide ((unhide HWI1).below hb2)
  have hilt:∀x∈fp (G.i i) s0.ids,x < sb:=fun x hx=>by rw [←hsb];exact W_lt (unhide HWI1) x hx
  rw [hsb] at *
  clear hW2 hb2 hs2 u0 u1 u2 c0 c1 c2 c3 c4 c5 c6 c7 c8 hnl HN_1 HM_1 HR_1 HB1 HNO1 HWI1
  obtain⟨m0,m1,m2,m3,m4,m5,m6⟩:=sevenC (unhide HM_2)
  obtain⟨s00,s01,s02⟩:=threeC (unhide HS_2)
  have sf:=obj_free (unhide HS_2) 1
  have hml:=obj_lt (unhide HM_2)
  have hsl2:=obj_lt (unhide HS_2)
  go_upto_if 35 with fail
  go_cut [8] from 15 (fun p wx=>p= .pointer (some ⟨sb,0,none⟩)∧wx.heap[sb]?=some (.cells #[.int .i64 mF,.int .i64 (lowS s0 mL),.slice bi s0.ids.length ci] 71 (0,0))∧KeepsL [sb] W2 wx)
  case first=>
   by_cases hlow:s0.l < mL
   ·have hd:decide (s0.l < mL)=true:=decide_eq_true hlow
    have HLW:=hide (show lowS s0 mL=mL from if_pos hlow)
    go_wp2_with fail
    go_meet
    case rel=>exact⟨rfl,by rw [unhide HLW];exact blk_setO (unhide HS_2) 1 _,KeepsL.set _⟩
   ·have hd:decide (s0.l < mL)=false:=decide_eq_false hlow
    have HLW:=hide (show lowS s0 mL=s0.l from if_neg hlow)
    go_wp2_with fail
    go_meet
    case rel=>exact⟨rfl,by rw [unhide HLW];exact unhide HS_2,KeepsL.refl _ _⟩
  case rest=>
   obtain⟨rfl,hs3,hk3⟩:=hcut
   clear m0 m1 m2 m3 m4 m5 m6 s00 s01 s02 sf hml hsl2
   go_upto_region 7 with fail
   refine wp_at (fun W3 hW3=>?_)
   subst hW3
   have HS_3:=hide hs3
   have HN_3:=hide (hk3.obj (unhide HN_2) (fun hx=>by simp at hx;omega))
   have HM_3:=hide (hk3.obj (unhide HM_2) (fun hx=>by simp at hx;omega))
   have HR_3:=hide (hk3.obj (unhide HR_2) (fun hx=>by simp at hx;omega))
   have HB3:=hide ((unhide HB2).trans (hk3.below (B:=w.heap.size) (fun x hx=>by simp at hx;omega) (unhide HB2).size))
   have HNO3:=hide ((unhide HNO2).kc (k:=9) (KC.keeps hk3 (fun x hx=>by have:x=sb:=(by simpa using hx);rw [this];exact newC_new (by omega))) (by omega))
   have HWI3:=hide ((unhide HWI2).keeps hk3 (fun x hx hm=>by have h1:=hilt x hx;simp at hm;omega))
   clear hs3 hk3 HN_2 HM_2 HR_2 HB2 HNO2 HWI2 HS_2
   have hsb3:=obj_lt (unhide HS_3)
   obtain⟨i0,hi0,hz0,hz1',hz2⟩:=info_parts infoInt
   go_upto_block 2 with fail
   go_cut [9] from 15 (fun v wx=>∃g cp,v= .slice (some ⟨g,0,none⟩) (idsS s0 mL).length cp∧wx.ownsRow W3.heap.size 3 1 v (idsS s0 mL).length (GR.flat encNum (idsS s0 mL))∧(idsS s0 mL=[]→cp=0)∧Below W3.heap.size W3 wx)
   case first=>
    go_wp2_with fail
    go_loopw [9,10] (fun v j wr=>∃k g cp:Nat,k≤s0.ids.length∧j= .int .i64 k∧v= .slice (some ⟨g,0,none⟩) (idsTo s0 mL k).length cp∧wr.ownsRow W3.heap.size 3 1 v (idsTo s0 mL k).length (GR.flat encNum (idsTo s0 mL k))∧(idsTo s0 mL k=[]→cp=0)∧Below W3.heap.size W3 wr) (fun _ j _=>s0.ids.length - (intOf j).toNat)
    case atStart=>exact⟨0,_,_,Nat.zero_le _,rfl,rfl,World.ownsRow_lit _ #[] 0 (Nat.le_refl _) (by decide) rfl,fun _=>rfl,below_one _ _⟩
    case round=>
     obtain⟨k,g,cp,hk,rfl,rfl,hown,hcp0,hbel⟩:=hrel
     have HCP0:=hide hcp0
     clear hcp0
     have HBL:=hide hbel
     obtain⟨_,s31,s32⟩:=threeC (obj_step (unhide HS_3) hbel)
     clear hbel
     by_cases hlt:k < s0.ids.length
     ·obtain⟨eb,hgb,hcell⟩:=((unhide HWI3).below (unhide HBL)) k hlt
      have y0:=(hcell 0 (by omega)).1
      rw [Nat.mul_one,Nat.add_zero] at y0
      simp only[List.getElem?_cons_zero] at y0
      clear hcell
      subst eb
      have hlen:=idsTo_len s0 mL k
      by_cases hge:lowS s0 mL≤s0.ids[k]
      ·have HY:=hide (idsTo_yes s0 mL k hlt hge)
       generalize s0.ids[k]=x at *
       have hd:decide (lowS s0 mL≤x)=true:=decide_eq_true hge
       go_wp2_with fail
       go_quiet (fail)
       go_wp2_with (at_builtin;refine wpList_append_own _ rfl _ _ 24 rfl W3.heap.size 3 i0 (.int .i64 0) 1 8 Tryz.underlying24 hi0 hz0 hz1' hz2 rfl (by decide) _ _ _ rfl (own_drewN_alloc hown) ⟨wr.heap.size,0,none⟩ 1 1 [.int .i64 x] rfl rfl ?c1 ?c2 ?c3 ?c4 ?c5 ?_)
       case c1=>exact cell_one_new _ _ _
       case c2=>intro u hu;simp at hu;subst hu;rfl
       case c3=>unfold maxLen;omega
       case c4=>omega
       case c5=>have:=(unhide HBL).size;simp;omega
       intro v' w2 hown' hgrow _
       have HB2':=hide (GR.below_append (wr:=wr.drewN nq) ((unhide HBL).trans ⟨rfl,rfl,rfl,Nat.le_refl _,fun _ _=>rfl⟩) (unhide HBL).size hown hgrow)
       obtain⟨g',cp',rfl⟩:∃g' cp',v'= .slice (some ⟨g',0,none⟩) ((idsTo s0 mL k).length+1) cp':=by
        rcases hown'.2 with⟨_,hn⟩|⟨g',cap',cur,hv,_⟩
        ·omega
        ·exact⟨g',cap',hv⟩
       have HO2:=hide hown'
       clear hown' hgrow
       go_wp2_with fail
       go_roundw
       case rel=>exact⟨k+1,g',cp',by omega,by go_num,by rw [unhide HY,List.length_append];rfl,by rw [unhide HY,List.length_append,GR.flat_append,GR.flat_one];exact unhide HO2,fun e=>by rw [unhide HY] at e;simp at e,unhide HB2'⟩
       case measure=>simp[intOf];omega
      ·have HY:=hide (idsTo_no s0 mL k hlt hge)
       generalize s0.ids[k]=x at *
       have hd:decide (lowS s0 mL≤x)=false:=decide_eq_false hge
       go_wp2_with fail
       go_quiet (fail)
       go_wp2_with fail
       go_roundw
       case rel=>exact⟨k+1,g,cp,by omega,by go_num,by rw [unhide HY],by rw [unhide HY];exact hown,by rw [unhide HY];exact unhide HCP0,(unhide HBL).trans ⟨rfl,rfl,rfl,Nat.le_refl _,fun _ _=>rfl⟩⟩
       case measure=>simp[intOf];omega
     ·have hke:k=s0.ids.length:=by omega
      subst hke
      have hd:decide ((s0.ids.length:Int) < (s0.ids.length:Int))=false:=by simp
      rw [idsTo_all] at hown HCP0
      have hsl':(Value.slice (some ⟨g,0,none⟩) (idsTo s0 mL s0.ids.length).length cp)= .slice (some ⟨g,0,none⟩) (idsS s0 mL).length cp:=by rw [idsTo_all]
      rw [idsTo_all]
      go_wp2_with fail
      go_meet
      case rel=>exact⟨g,cp,rfl,hown,unhide HCP0,unhide HBL⟩
   case rest=>
    obtain⟨gi,ccp,rfl,hown4,hcp4,hb4⟩:=hcut
    have HS_4:=hide (obj_step (unhide HS_3) hb4)
    have HN_4:=hide (obj_step (unhide HN_3) hb4)
    have HM_4:=hide (obj_step (unhide HM_3) hb4)
    have HR_4:=hide (obj_step (unhide HR_3) hb4)
    have HB4:=hide ((unhide HB3).trans (hb4.mono (unhide HB3).size))
    have HNO4:=hide ((unhide HNO3).kc (k:=9) (KC.of_below hb4) (by omega))
    have hgi:W3.heap.size≤gi:=(hown4.lt gi rfl).1
    have hgiu:gi < wc.heap.size:=(hown4.lt gi rfl).2
    have hccp:(idsS s0 mL).length≤ccp:=by
     rcases hown4.2 with⟨h1,_⟩|⟨g1,cap1,cur1,hv1,_,_,hnc1,_⟩
     ·simp at h1
     ·simp only[Value.slice.injEq] at hv1
      omega
    have hsb4:=obj_lt (unhide HS_4)
    have hIL:(idsS s0 mL).length≤1000:=Nat.le_trans (List.length_filter_le _ _) hil
    have hW5:WO (wc.setCell ⟨sb,2,none⟩ (.slice (some ⟨gi,0,none⟩) (idsS s0 mL).length ccp)) (some ⟨gi,0,none⟩) ccp gi (idsS s0 mL):=(WO.of_own (W_own encNum_length hown4) hown4 hcp4).keeps (KeepsL.set _) (fun x hx hm=>by have h1:=(of_fp hx).1;simp at hm;omega)
    have HNO5:=hide ((unhide HNO4).kc (k:=9) (w':=wc.setCell ⟨sb,2,none⟩ (.slice (some ⟨gi,0,none⟩) (idsS s0 mL).length ccp)) (KC.set (newC_new (by omega))) (by omega))
    have HNO6:=hide ((unhide HNO5).seenPut i hi ⟨mF,lowS s0 mL,idsS s0 mL⟩ (some ⟨gi,0,none⟩) ccp gi hW5 (fun x hx=>by rw [(of_fp hx).1];exact newC_new (by omega)))
    have hgsn:G.s≠w.heap.size:=by omega
    obtain⟨T,hT,hlT,hrT⟩:=(unhide HNO4).s
    obtain⟨_,_,hcT⟩:=hT i (by omega)
    have hTi:∀j,j < 3→∃u,wc.cell? ⟨G.s,i*3+j,none⟩=some u∧wc.frozen? ⟨G.s,i*3+j,none⟩=false:=fun j hj=>⟨_,(hcT j hj).1.trans (List.getElem?_eq_getElem (by rw [encR3_length];exact hj)),(hcT j hj).2⟩
    obtain⟨v0,y0,x0⟩:=hTi 0 (by omega)
    obtain⟨v1,y1,x1⟩:=hTi 1 (by omega)
    obtain⟨v2,y2,x2⟩:=hTi 2 (by omega)
    rw [Nat.add_zero] at y0 x0
    clear hTi hcT hrT hT hlT T hown4 hb4 HNO4 HN_3 HM_3 HR_3 HB3 HNO3 HWI3 HS_3
    have hgsl2:G.s < wc.heap.size:=by omega
    obtain⟨c0,c1,c2,c3,c4,c5,c6,c7,c8⟩:=nine (unhide HN_4)
    obtain⟨s40,s41,s42⟩:=threeC (unhide HS_4)
    have sf:=obj_free (unhide HS_4) 2
    have hnl:=obj_lt (unhide HN_4)
    have hne1:sb≠G.s:=by omega
    have hne2:G.s≠sb:=by omega
    go_upto_region 15 with fail
    refine wp_at (fun W6 hW6=>?_)
    have HNW:Hid (NQ W6 B (setSeen n (n.seen.set i ⟨mF,lowS s0 mL,idsS s0 mL⟩)) (⟨a_k,a_p,a_o,(some ⟨G.s,0,none⟩),a_r,a_ck,a_cp,a_co,a_cs,a_cr⟩:Ads) ⟨G.k,G.p,G.o,G.s,G.r,setI G.i i gi⟩ (col5 gi (idsS s0 mL) (newC w.heap.size 9 c))):=by rw [hW6];exact unhide HNO6
    have hk6:KeepsL [sb,G.s] wc W6:=by
     rw [hW6]
     exact((KeepsL.set _).mono (by simp)).trans ((setW_keeps [.int .i64 mF,.int .i64 (lowS s0 mL),.slice (some ⟨gi,0,none⟩) (idsS s0 mL).length ccp] _ (i*3)).mono (by simp))
    have HIW:Hid (GR.W encNum 1 W6 (some ⟨gi,0,none⟩) gi (idsS s0 mL)):=by
     rw [hW6]
     exact hW5.W.keeps (setW_keeps [.int .i64 mF,.int .i64 (lowS s0 mL),.slice (some ⟨gi,0,none⟩) (idsS s0 mL).length ccp] _ (i*3)) (fun x hx hm=>by have h1:=(of_fp hx).1;simp at hm;omega)
    have HS_6:Hid (W6.heap[sb]?=some (.cells #[.int .i64 mF,.int .i64 (lowS s0 mL),.slice (some ⟨gi,0,none⟩) (idsS s0 mL).length ccp] 71 (0,0))):=by rw [hW6];exact obj_set _ hne1 (obj_set _ hne1 (obj_set _ hne1 (blk_setO (unhide HS_4) 2 _)))
    have HN_6:=hide (hk6.obj (unhide HN_4) (fun hx=>by simp at hx;omega))
    have HM_6:=hide (hk6.obj (unhide HM_4) (fun hx=>by simp at hx;omega))
    have HR_6:=hide (hk6.obj (unhide HR_4) (fun hx=>by simp at hx;omega))
    have hBs:B≤G.s:=by
     rcases Nat.lt_or_ge G.s B with h1|h1
     ·have h2:=(unhide HNO).lo G.s h1
      rw [newC_old (by omega),hc4] at h2
      omega
     ·exact h1
    have HBB6:=hide (((unhide HB4).mono hB).trans (hk6.below (B:=B) (fun x hx=>by simp at hx;omega) (Nat.le_trans hB (unhide HB4).size)))
    have HKA6:=hide (Apart.keeps (c:=c) (Apart.of_below (unhide HB4)) (unhide HB4).size hk6 (fun x hx=>by
     have h1:x=sb∨x=G.s:=by simpa using hx
     rcases h1 with rfl|rfl
     ·left;omega
     ·right;omega))
    have hgiw:gi < W6.heap.size:=Nat.lt_of_lt_of_le hgiu hk6.size
    have hsz6:w.heap.size+3≤W6.heap.size:=by have:=obj_lt (unhide HS_6);omega
    have HCO:Hid (∀x,x < w.heap.size→6 < c x→col5 gi (idsS s0 mL) (newC w.heap.size 9 c) x=9):=fun x hx h=>by rw [col5_out (fun hm=>by have:=(of_fp hm).1;omega),newC_old hx];exact unhide H9 x h
    have HCN:Hid (∀x,w.heap.size≤x→x≠gi→col5 gi (idsS s0 mL) (newC w.heap.size 9 c) x=9):=fun x hx h=>by rw [col5_out (fun hm=>h (of_fp hm).1)];exact newC_new hx
    clear hW6 hk6 hW5 HNO6 y0 y1 y2 x0 x1 x2 s40 s41 s42 sf c0 c1 c2 c3 c4 c5 c6 c7 c8 hnl HN_4 HM_4 HR_4 HS_4 HB4
    obtain⟨c0,c1,c2,c3,c4,c5,c6,c7,c8⟩:=nine (unhide HN_6)
    obtain⟨m0,m1,m2,m3,m4,m5,m6⟩:=sevenC (unhide HM_6)
    have hnl:=obj_lt (unhide HN_6)
    have hml:=obj_lt (unhide HM_6)
    go_upto_region 16 with fail
    refine wp_at (fun W7 hW7=>?_)
    have hb7:=below_one W6 (.cells #[.int .i64 2,.int .i64 n.id,.int .i64 mF,.int .i64 mI,.int .i64 0,.string ⟨#[]⟩,.int .i64 0] 37)
    have ha7:=heap_alloc_new W6 (.cells #[.int .i64 2,.int .i64 n.id,.int .i64 mF,.int .i64 mI,.int .i64 0,.string ⟨#[]⟩,.int .i64 0] 37)
    rw [←hW7] at hb7 ha7
    have HA_7:=hide ha7
    have HN_7:=hide (obj_step (unhide HN_6) hb7)
    have HM_7:=hide (obj_step (unhide HM_6) hb7)
    have HR_7:=hide (obj_step (unhide HR_6) hb7)
    have HS_7:=hide (obj_step (unhide HS_6) hb7)
    have HIW7:=hide ((unhide HIW).below hb7)
    have HNW7:=hide ((unhide HNW).kc (k:=9) (KC.of_below hb7) (by omega))
    have HBB7:=hide ((unhide HBB6).trans (hb7.mono (Nat.le_trans hB (by omega))))
    have HKA7:=hide ((unhide HKA6).step (by omega) hb7)
    obtain⟨ab,hab⟩:∃ab,W6.heap.size=ab:=⟨_,rfl⟩
    have hab3:w.heap.size+3≤ab:=by omega
    have habs:sb < ab:=by have:=obj_lt (unhide HS_6);omega
    have hagi:gi < ab:=by omega
    rw [hab] at HA_7
    rw [hab] at *
    have hz7:=obj_lt (unhide HA_7)
    clear hW7 hb7 ha7 c0 c1 c2 c3 c4 c5 c6 c7 c8 m0 m1 m2 m3 m4 m5 m6 hnl hml HN_6 HM_6 HR_6 HS_6 HIW HNW HBB6 HKA6
    obtain⟨m0,m1,m2,m3,m4,m5,m6⟩:=sevenC (unhide HM_7)
    obtain⟨s70,s71,s72⟩:=threeC (unhide HS_7)
    have hml:=obj_lt (unhide HM_7)
    have hsl7:=obj_lt (unhide HS_7)
    have HHAS:=hide (fun W (ha:IntsAt W (some ⟨gi,0,none⟩) (idsS s0 mL))=>specHas (some ⟨gi,0,none⟩) ccp (idsS s0 mL) mI W (by omega) ha)
    obtain⟨c0,c1,c2,c3,c4,c5,c6,c7,c8⟩:=nine (unhide HN_7)
    obtain⟨d0,d1,d2,d3,d4,d5,d6,d7,d8⟩:=nine (unhide HR_7)
    have f0:=obj_free (unhide HR_7) 0
    have f1:=obj_free (unhide HR_7) 1
    have f2:=obj_free (unhide HR_7) 2
    have f3:=obj_free (unhide HR_7) 3
    have f4:=obj_free (unhide HR_7) 4
    have f5:=obj_free (unhide HR_7) 5
    have f6:=obj_free (unhide HR_7) 6
    have f7:=obj_free (unhide HR_7) 7
    have f8:=obj_free (unhide HR_7) 8
    have hnl:=obj_lt (unhide HN_7)
    have hrl:=obj_lt (unhide HR_7)
    by_cases hm:mI < lowS s0 mL
    ·have hd:decide (mI < lowS s0 mL)=true:=decide_eq_true hm
     go_wp2_with fail
     refine bodyPost_atN (fun W' hW'=>?_)
     have e4:W'.heap[w.heap.size+2]?=some (.cells #[.int .i64 n.id,.int .i64 n.par,.slice a_k n.kids.length a_ck,.int .i64 n.next,.slice a_p n.pu.length a_cp,.slice a_o n.out.length a_co,.slice (some ⟨G.s,0,none⟩) n.seen.length a_cs,.int .i64 n.old,.slice a_r n.reqs.length a_cr] 30 (0,0)):=by
      rw [hW']
      exact GR.setW_blk [.int .i64 n.id,.int .i64 n.par,.slice a_k n.kids.length a_ck,.int .i64 n.next,.slice a_p n.pu.length a_cp,.slice a_o n.out.length a_co,.slice (some ⟨G.s,0,none⟩) n.seen.length a_cs,.int .i64 n.old,.slice a_r n.reqs.length a_cr] (o:=0) (xs:=[.int .i64 0,.int .i64 0,.slice none 0 0,.int .i64 0,.slice none 0 0,.slice none 0 0,.slice none 0 0,.int .i64 0,.slice none 0 0]) (unhide HR_7)
     have hkf:KeepsL [w.heap.size+2] W7 W':=by
      rw [hW']
      exact setW_keeps [.int .i64 n.id,.int .i64 n.par,.slice a_k n.kids.length a_ck,.int .i64 n.next,.slice a_p n.pu.length a_cp,.slice a_o n.out.length a_co,.slice (some ⟨G.s,0,none⟩) n.seen.length a_cs,.int .i64 n.old,.slice a_r n.reqs.length a_cr] W7 0
     have hrne:w.heap.size+2≠gi:=by omega
     have HNF:=hide ((unhide HNW7).kc (k:=9) (KC.keeps hkf (fun x hx=>by have:x=w.heap.size+2:=(by simpa using hx);rw [this];exact unhide HCN _ (by omega) hrne)) (by omega))
     have HAT:Hid (∀W'',Out c w W' W''→RM W'' (⟨a_k,a_p,a_o,(some ⟨G.s,0,none⟩),a_r,a_ck,a_cp,a_co,a_cs,a_cr⟩:Ads) (setSeen n (n.seen.set i ⟨mF,lowS s0 mL,idsS s0 mL⟩))):=fun W'' ho=>by
      obtain⟨F,hk,hF⟩:=ho
      have hold:=((unhide HNF).kc (k:=9) (KC.keeps hk (fun x hx=>unhide HCO x (hF x hx).1 (hF x hx).2)) (by omega))
      have ho:Out c w W' W'':=⟨F,hk,hF⟩
      exact hold.rm
     have HAM:Hid (∀W'',Out c w W' W''→GR.At encM 7 W'' (some ⟨ab,0,none⟩) [⟨2,n.id,mF,mI,0,ByteArray.empty,0⟩]):=fun W'' ho j hj=>ack_at (hkf.obj (unhide HA_7) (fun hm=>by simp at hm;omega)) ho (by omega) j hj
     have HBF:Hid (Below B w W'):=(unhide HBB7).trans (hkf.below (fun x hx=>by have:x=w.heap.size+2:=(by simpa using hx);omega) (by have h1:=obj_lt (unhide HR_7);omega))
     have HKF:=hide (Apart.keeps (c:=c) (unhide HKA7) (by have h1:=obj_lt (unhide HR_7);omega) hkf (fun x hx=>by have:x=w.heap.size+2:=(by simpa using hx);omega))
     obtain⟨x0,x1,x2,x3,x4,x5,x6,x7,x8⟩:=nine e4
     clear hW' e4 hkf
     first
      |exact bodyPost_ret (v:= .tuple #[.agg #[.int .i64 n.id,.int .i64 n.par,.slice a_k n.kids.length a_ck,.int .i64 n.next,.slice a_p n.pu.length a_cp,.slice a_o n.out.length a_co,.slice (some ⟨G.s,0,none⟩) n.seen.length a_cs,.int .i64 n.old,.slice a_r n.reqs.length a_cr],.slice (some ⟨ab,0,none⟩) 1 1,.int .i64 0]) (by simp[results,Tryz.results68,go_sem,x0,x1,x2,x3,x4,x5,x6,x7,x8]) rfl ⟨(⟨a_k,a_p,a_o,(some ⟨G.s,0,none⟩),a_r,a_ck,a_cp,a_co,a_cs,a_cr⟩:Ads),(some ⟨ab,0,none⟩),⟨1,by simp[ndv,ndc,setSeen]⟩,unhide HAT,unhide HAM,unhide HBF,unhide HKF⟩
      |exact bodyPost_ret (v:= .tuple #[.agg #[.int .i64 n.id,.int .i64 n.par,.slice a_k n.kids.length a_ck,.int .i64 n.next,.slice a_p n.pu.length a_cp,.slice a_o n.out.length a_co,.slice (some ⟨G.s,0,none⟩) n.seen.length a_cs,.int .i64 n.old,.slice a_r n.reqs.length a_cr],.slice (some ⟨ab,0,none⟩) 1 1,.int .i64 0]) (by simp[results,Tryz.results68,go_sem,x0,x1,x2,x3,x4,x5,x6,x7,x8]) rfl ⟨(⟨a_k,a_p,a_o,(some ⟨G.s,0,none⟩),a_r,a_ck,a_cp,a_co,a_cs,a_cr⟩:Ads),(some ⟨ab,0,none⟩),1,by simp[ndv,ndc,setSeen],unhide HAT,unhide HAM,unhide HBF,unhide HKF⟩
    ·have hd:decide (mI < lowS s0 mL)=false:=decide_eq_false hm
     have hb:hasB (idsS s0 mL) mI=true:=by unfold hasS at hhas;rw [hd] at hhas;simpa using hhas
     rw [hb] at HHAS
     go_wp2_with (go_at_call 41;refine(unhide HHAS _ (unhide HIW7).at).mono ?_;rintro e wh ⟨rfl,rfl⟩)
     refine bodyPost_atN (fun W' hW'=>?_)
     have e4:W'.heap[w.heap.size+2]?=some (.cells #[.int .i64 n.id,.int .i64 n.par,.slice a_k n.kids.length a_ck,.int .i64 n.next,.slice a_p n.pu.length a_cp,.slice a_o n.out.length a_co,.slice (some ⟨G.s,0,none⟩) n.seen.length a_cs,.int .i64 n.old,.slice a_r n.reqs.length a_cr] 30 (0,0)):=by
      rw [hW']
      exact GR.setW_blk [.int .i64 n.id,.int .i64 n.par,.slice a_k n.kids.length a_ck,.int .i64 n.next,.slice a_p n.pu.length a_cp,.slice a_o n.out.length a_co,.slice (some ⟨G.s,0,none⟩) n.seen.length a_cs,.int .i64 n.old,.slice a_r n.reqs.length a_cr] (o:=0) (xs:=[.int .i64 0,.int .i64 0,.slice none 0 0,.int .i64 0,.slice none 0 0,.slice none 0 0,.slice none 0 0,.int .i64 0,.slice none 0 0]) (unhide HR_7)
     have hkf:KeepsL [w.heap.size+2] W7 W':=by
      rw [hW']
      exact setW_keeps [.int .i64 n.id,.int .i64 n.par,.slice a_k n.kids.length a_ck,.int .i64 n.next,.slice a_p n.pu.length a_cp,.slice a_o n.out.length a_co,.slice (some ⟨G.s,0,none⟩) n.seen.length a_cs,.int .i64 n.old,.slice a_r n.reqs.length a_cr] W7 0
     have hrne:w.heap.size+2≠gi:=by omega
     have HNF:=hide ((unhide HNW7).kc (k:=9) (KC.keeps hkf (fun x hx=>by have:x=w.heap.size+2:=(by simpa using hx);rw [this];exact unhide HCN _ (by omega) hrne)) (by omega))
     have HAT:Hid (∀W'',Out c w W' W''→RM W'' (⟨a_k,a_p,a_o,(some ⟨G.s,0,none⟩),a_r,a_ck,a_cp,a_co,a_cs,a_cr⟩:Ads) (setSeen n (n.seen.set i ⟨mF,lowS s0 mL,idsS s0 mL⟩))):=fun W'' ho=>by
      obtain⟨F,hk,hF⟩:=ho
      have hold:=((unhide HNF).kc (k:=9) (KC.keeps hk (fun x hx=>unhide HCO x (hF x hx).1 (hF x hx).2)) (by omega))
      have ho:Out c w W' W'':=⟨F,hk,hF⟩
      exact hold.rm
     have HAM:Hid (∀W'',Out c w W' W''→GR.At encM 7 W'' (some ⟨ab,0,none⟩) [⟨2,n.id,mF,mI,0,ByteArray.empty,0⟩]):=fun W'' ho j hj=>ack_at (hkf.obj (unhide HA_7) (fun hm=>by simp at hm;omega)) ho (by omega) j hj
     have HBF:Hid (Below B w W'):=(unhide HBB7).trans (hkf.below (fun x hx=>by have:x=w.heap.size+2:=(by simpa using hx);omega) (by have h1:=obj_lt (unhide HR_7);omega))
     have HKF:=hide (Apart.keeps (c:=c) (unhide HKA7) (by have h1:=obj_lt (unhide HR_7);omega) hkf (fun x hx=>by have:x=w.heap.size+2:=(by simpa using hx);omega))
     obtain⟨x0,x1,x2,x3,x4,x5,x6,x7,x8⟩:=nine e4
     clear hW' e4 hkf
     first
      |exact bodyPost_ret (v:= .tuple #[.agg #[.int .i64 n.id,.int .i64 n.par,.slice a_k n.kids.length a_ck,.int .i64 n.next,.slice a_p n.pu.length a_cp,.slice a_o n.out.length a_co,.slice (some ⟨G.s,0,none⟩) n.seen.length a_cs,.int .i64 n.old,.slice a_r n.reqs.length a_cr],.slice (some ⟨ab,0,none⟩) 1 1,.int .i64 0]) (by simp[results,Tryz.results68,go_sem,x0,x1,x2,x3,x4,x5,x6,x7,x8]) rfl ⟨(⟨a_k,a_p,a_o,(some ⟨G.s,0,none⟩),a_r,a_ck,a_cp,a_co,a_cs,a_cr⟩:Ads),(some ⟨ab,0,none⟩),⟨1,by simp[ndv,ndc,setSeen]⟩,unhide HAT,unhide HAM,unhide HBF,unhide HKF⟩
      |exact bodyPost_ret (v:= .tuple #[.agg #[.int .i64 n.id,.int .i64 n.par,.slice a_k n.kids.length a_ck,.int .i64 n.next,.slice a_p n.pu.length a_cp,.slice a_o n.out.length a_co,.slice (some ⟨G.s,0,none⟩) n.seen.length a_cs,.int .i64 n.old,.slice a_r n.reqs.length a_cr],.slice (some ⟨ab,0,none⟩) 1 1,.int .i64 0]) (by simp[results,Tryz.results68,go_sem,x0,x1,x2,x3,x4,x5,x6,x7,x8]) rfl ⟨(⟨a_k,a_p,a_o,(some ⟨G.s,0,none⟩),a_r,a_ck,a_cp,a_co,a_cs,a_cr⟩:Ads),(some ⟨ab,0,none⟩),1,by simp[ndv,ndc,setSeen],unhide HAT,unhide HAM,unhide HBF,unhide HKF⟩
theorem specTake_no (n:Nd) (a_k a_p a_o a_s a_r:Option Addr) (a_ck a_cp a_co a_cs a_cr:Nat) (G:Blks) (c:Nat→Nat) (mK mF mT mI mL:Int) (mk:ByteArray) (mN:Int) (w:World) (B:Nat) (hB:B≤w.heap.size) (h9:∀x,6 < c x→c x=9) (i:Nat) (hi:i < n.seen.length) (s0:Sn) (hs0:n.seen[i]=s0) (hfi:s0.f=mF) (hbef:∀x (hx:x < n.seen.length),x < i→n.seen[x].f≠mF) (hsl:n.seen.length≤1000) (hil:s0.ids.length≤1000) (hz:NdSz n 1048576) (hmk:mk.size≤1048576) (hP:∃g,a_p=some ⟨g,0,none⟩) (hPc:n.pu.length≤a_cp) (RL:List Pu) (ok:Bool) (hu:addP n.pu mk 0 1 0 mN=(RL,ok)) (hhas:hasS s0 mL mI=false) (hgn:ok=false∨40≤(idsS s0 mL).length) (h:NQ w B n (⟨a_k,a_p,a_o,a_s,a_r,a_ck,a_cp,a_co,a_cs,a_cr⟩:Ads) G c):Calls Tryz.prog 68 #[ndv n (⟨a_k,a_p,a_o,a_s,a_r,a_ck,a_cp,a_co,a_cs,a_cr⟩:Ads),.agg #[.int .i64 mK,.int .i64 mF,.int .i64 mT,.int .i64 mI,.int .i64 mL,.string mk,.int .i64 mN]] w (GivesT w B c (setSeen n (n.seen.set i ⟨mF,lowS s0 mL,idsS s0 mL⟩),[],1)):=by
 obtain⟨gp,hgp⟩:=hP
 subst hgp
 have HSP:=hide (fun W (ha:PursesAt W (some ⟨gp,0,none⟩) n.pu)=>specGain gp 0 a_cp n.pu mk mN W (Nat.le_trans hz.p (by omega)) hPc hz.pk hmk ha)
 unfold GivesO at HSP
 rw [hu] at HSP
 clear hu hz hPc
 unfold GivesT
 have H9:=hide h9
 clear h9
 have HNO:=hide (h.nine hB)
 have HGS:=hide (h.s)
 have hc4:c G.s=4:=h.c4 G.s (fp_mem (by omega))
 clear h
 go_enter Tryz.func68,Tryz.ntmps68
 go_upto_region 1 with fail
 refine wp_at (fun W0 hW=>?_)
 obtain⟨e1,e2,e3,e4⟩:=allocs3E w (.cells (ndc n (⟨a_k,(some ⟨gp,0,none⟩),a_o,a_s,a_r,a_ck,a_cp,a_co,a_cs,a_cr⟩:Ads)) 30) (.cells #[.int .i64 mK,.int .i64 mF,.int .i64 mT,.int .i64 mI,.int .i64 mL,.string mk,.int .i64 mN] 37) (.cells zc9 30)
 rw [←hW] at e1 e2 e3 e4
 have HN_0:=hide e1
 have HM_0:=hide e2
 have HR_0:=hide e3
 have HB0:=hide e4
 have HNO0:=hide ((unhide HNO).kc (k:=9) (KC.of_below e4) (by omega))
 clear hW e1 e2 e3 e4
 obtain⟨bi,ci,eA,hgs0,⟨t0,t1,t2⟩,_,hWi⟩:=SeenW.three (unhide HNO0).s i hi
 rw [hs0] at t0 t1 t2 hWi
 rw [hfi] at t0
 have hgsl:G.s < w.heap.size:=obj_lt_W (unhide HGS) (by omega)
 have HWI:=hide hWi
 have HT:=hide (And.intro t0 (And.intro t1 t2))
 clear hWi t0 t1 t2
 dsimp only at eA
 subst eA
 obtain⟨c0,c1,c2,c3,c4,c5,c6,c7,c8⟩:=nine (unhide HN_0)
 obtain⟨m0,m1,m2,m3,m4,m5,m6⟩:=sevenC (unhide HM_0)
 have hnl:=obj_lt (unhide HN_0)
 have hml:=obj_lt (unhide HM_0)
 go_upto_block 0 with fail
 go_cut [7] from 15 (fun j wx=>j= .int .i64 (i:Nat)∧Ge W0 wx)
 case first=>
  go_wp2_with fail
  go_loopw [7] (fun j wr=>∃x q:Nat,x≤i∧j= .int .i64 x∧wr=W0.drewN q) (fun j _=>i - (intOf j).toNat)
  case atStart=>exact⟨0,0,Nat.zero_le _,rfl,rfl⟩
  case round=>
   obtain⟨x,q,hx,rfl,rfl⟩:=hrel
   have hxl:x < n.seen.length:=by omega
   obtain⟨b',c',e',hg',⟨u0,_,_⟩,_,_⟩:=SeenW.three (unhide HNO0).s x hxl
   by_cases hxi:x=i
   ·subst hxi
    rw [hs0,hfi] at u0
    have hnn:(mF != mF)=false:=by simp
    go_wp2_with fail
    go_quiet (fail)
    go_wp2_with fail
    go_meet
    case rel=>exact⟨rfl,⟨rfl,rfl,rfl,Nat.le_refl _,fun _ _=>rfl⟩⟩
   ·have hne:=hbef x hxl (by omega)
    generalize n.seen[x].f=fx at *
    have hnn:(fx != mF)=true:=by simpa using hne
    go_wp2_with fail
    go_quiet (fail)
    go_wp2_with fail
    go_roundw
    case rel=>exact⟨x+1,_,by omega,by go_num,rfl⟩
    case measure=>simp[intOf];omega
 case rest=>
  obtain⟨rfl,hge⟩:=hcut
  have HN_1:=hide (obj_step (unhide HN_0) hge)
  have HM_1:=hide (obj_step (unhide HM_0) hge)
  have HR_1:=hide (obj_step (unhide HR_0) hge)
  have HB1:=hide ((unhide HB0).trans (hge.mono (unhide HB0).size))
  have HNO1:=hide ((unhide HNO0).kc (k:=9) (KC.of_below hge) (by omega))
  have HWI1:=hide ((unhide HWI).below hge)
  have hz1:w.heap.size+3≤wc.heap.size:=by have:=obj_lt (unhide HR_1);omega
  obtain⟨t0,t1,t2⟩:=unhide HT
  have u0:=(hge.cell (p:=⟨G.s,i*3,none⟩) hgs0).trans t0
  have u1:=(hge.cell (p:=⟨G.s,i*3+1,none⟩) hgs0).trans t1
  have u2:=(hge.cell (p:=⟨G.s,i*3+2,none⟩) hgs0).trans t2
  clear t0 t1 t2 hge c0 c1 c2 c3 c4 c5 c6 c7 c8 m0 m1 m2 m3 m4 m5 m6 hnl hml HN_0 HM_0 HR_0 HB0 HNO0 HWI HT
  obtain⟨c0,c1,c2,c3,c4,c5,c6,c7,c8⟩:=nine (unhide HN_1)
  have hnl:=obj_lt (unhide HN_1)
  have hisl:(i:Int) < (n.seen.length:Int):=by omega
  go_upto_region 5 with fail
  refine wp_at (fun W2 hW2=>?_)
  have hb2:=below_one wc (.cells #[.int .i64 mF,.int .i64 s0.l,.slice bi s0.ids.length ci] 71)
  have hs2:=heap_alloc_new wc (.cells #[.int .i64 mF,.int .i64 s0.l,.slice bi s0.ids.length ci] 71)
  rw [←hW2] at hb2 hs2
  obtain⟨sb,hsb⟩:∃sb,wc.heap.size=sb:=⟨_,rfl⟩
  rw [hsb] at hs2 hz1
  have HS_2:=hide hs2
  have HN_2:=hide (obj_step (unhide HN_1) hb2)
  have HM_2:=hide (obj_step (unhide HM_1) hb2)
  have HR_2:=hide (obj_step (unhide HR_1) hb2)
  have HB2:=hide ((unhide HB1).trans (hb2.mono (unhide HB1).size))
  have HNO2:=hide ((unhide HNO1).kc (k:=9) (KC.of_below hb2) (by omega))
  have HWI2:=hide ((unhide HWI1).below hb2)
  have hilt:∀x∈fp (G.i i) s0.ids,x < sb:=fun x hx=>by rw [←hsb];exact W_lt (unhide HWI1) x hx
  rw [hsb] at *
  clear hW2 hb2 hs2 u0 u1 u2 c0 c1 c2 c3 c4 c5 c6 c7 c8 hnl HN_1 HM_1 HR_1 HB1 HNO1 HWI1
  obtain⟨m0,m1,m2,m3,m4,m5,m6⟩:=sevenC (unhide HM_2)
  obtain⟨s00,s01,s02⟩:=threeC (unhide HS_2)
  have sf:=obj_free (unhide HS_2) 1
  have hml:=obj_lt (unhide HM_2)
  have hsl2:=obj_lt (unhide HS_2)
  go_upto_if 35 with fail
  go_cut [8] from 15 (fun p wx=>p= .pointer (some ⟨sb,0,none⟩)∧wx.heap[sb]?=some (.cells #[.int .i64 mF,.int .i64 (lowS s0 mL),.slice bi s0.ids.length ci] 71 (0,0))∧KeepsL [sb] W2 wx)
  case first=>
   by_cases hlow:s0.l < mL
   ·have hd:decide (s0.l < mL)=true:=decide_eq_true hlow
    have HLW:=hide (show lowS s0 mL=mL from if_pos hlow)
    go_wp2_with fail
    go_meet
    case rel=>exact⟨rfl,by rw [unhide HLW];exact blk_setO (unhide HS_2) 1 _,KeepsL.set _⟩
   ·have hd:decide (s0.l < mL)=false:=decide_eq_false hlow
    have HLW:=hide (show lowS s0 mL=s0.l from if_neg hlow)
    go_wp2_with fail
    go_meet
    case rel=>exact⟨rfl,by rw [unhide HLW];exact unhide HS_2,KeepsL.refl _ _⟩
  case rest=>
   obtain⟨rfl,hs3,hk3⟩:=hcut
   clear m0 m1 m2 m3 m4 m5 m6 s00 s01 s02 sf hml hsl2
   go_upto_region 7 with fail
   refine wp_at (fun W3 hW3=>?_)
   subst hW3
   have HS_3:=hide hs3
   have HN_3:=hide (hk3.obj (unhide HN_2) (fun hx=>by simp at hx;omega))
   have HM_3:=hide (hk3.obj (unhide HM_2) (fun hx=>by simp at hx;omega))
   have HR_3:=hide (hk3.obj (unhide HR_2) (fun hx=>by simp at hx;omega))
   have HB3:=hide ((unhide HB2).trans (hk3.below (B:=w.heap.size) (fun x hx=>by simp at hx;omega) (unhide HB2).size))
   have HNO3:=hide ((unhide HNO2).kc (k:=9) (KC.keeps hk3 (fun x hx=>by have:x=sb:=(by simpa using hx);rw [this];exact newC_new (by omega))) (by omega))
   have HWI3:=hide ((unhide HWI2).keeps hk3 (fun x hx hm=>by have h1:=hilt x hx;simp at hm;omega))
   clear hs3 hk3 HN_2 HM_2 HR_2 HB2 HNO2 HWI2 HS_2
   have hsb3:=obj_lt (unhide HS_3)
   obtain⟨i0,hi0,hz0,hz1',hz2⟩:=info_parts infoInt
   go_upto_block 2 with fail
   go_cut [9] from 15 (fun v wx=>∃g cp,v= .slice (some ⟨g,0,none⟩) (idsS s0 mL).length cp∧wx.ownsRow W3.heap.size 3 1 v (idsS s0 mL).length (GR.flat encNum (idsS s0 mL))∧(idsS s0 mL=[]→cp=0)∧Below W3.heap.size W3 wx)
   case first=>
    go_wp2_with fail
    go_loopw [9,10] (fun v j wr=>∃k g cp:Nat,k≤s0.ids.length∧j= .int .i64 k∧v= .slice (some ⟨g,0,none⟩) (idsTo s0 mL k).length cp∧wr.ownsRow W3.heap.size 3 1 v (idsTo s0 mL k).length (GR.flat encNum (idsTo s0 mL k))∧(idsTo s0 mL k=[]→cp=0)∧Below W3.heap.size W3 wr) (fun _ j _=>s0.ids.length - (intOf j).toNat)
    case atStart=>exact⟨0,_,_,Nat.zero_le _,rfl,rfl,World.ownsRow_lit _ #[] 0 (Nat.le_refl _) (by decide) rfl,fun _=>rfl,below_one _ _⟩
    case round=>
     obtain⟨k,g,cp,hk,rfl,rfl,hown,hcp0,hbel⟩:=hrel
     have HCP0:=hide hcp0
     clear hcp0
     have HBL:=hide hbel
     obtain⟨_,s31,s32⟩:=threeC (obj_step (unhide HS_3) hbel)
     clear hbel
     by_cases hlt:k < s0.ids.length
     ·obtain⟨eb,hgb,hcell⟩:=((unhide HWI3).below (unhide HBL)) k hlt
      have y0:=(hcell 0 (by omega)).1
      rw [Nat.mul_one,Nat.add_zero] at y0
      simp only[List.getElem?_cons_zero] at y0
      clear hcell
      subst eb
      have hlen:=idsTo_len s0 mL k
      by_cases hge:lowS s0 mL≤s0.ids[k]
      ·have HY:=hide (idsTo_yes s0 mL k hlt hge)
       generalize s0.ids[k]=x at *
       have hd:decide (lowS s0 mL≤x)=true:=decide_eq_true hge
       go_wp2_with fail
       go_quiet (fail)
       go_wp2_with (at_builtin;refine wpList_append_own _ rfl _ _ 24 rfl W3.heap.size 3 i0 (.int .i64 0) 1 8 Tryz.underlying24 hi0 hz0 hz1' hz2 rfl (by decide) _ _ _ rfl (own_drewN_alloc hown) ⟨wr.heap.size,0,none⟩ 1 1 [.int .i64 x] rfl rfl ?c1 ?c2 ?c3 ?c4 ?c5 ?_)
       case c1=>exact cell_one_new _ _ _
       case c2=>intro u hu;simp at hu;subst hu;rfl
       case c3=>unfold maxLen;omega
       case c4=>omega
       case c5=>have:=(unhide HBL).size;simp;omega
       intro v' w2 hown' hgrow _
       have HB2':=hide (GR.below_append (wr:=wr.drewN nq) ((unhide HBL).trans ⟨rfl,rfl,rfl,Nat.le_refl _,fun _ _=>rfl⟩) (unhide HBL).size hown hgrow)
       obtain⟨g',cp',rfl⟩:∃g' cp',v'= .slice (some ⟨g',0,none⟩) ((idsTo s0 mL k).length+1) cp':=by
        rcases hown'.2 with⟨_,hn⟩|⟨g',cap',cur,hv,_⟩
        ·omega
        ·exact⟨g',cap',hv⟩
       have HO2:=hide hown'
       clear hown' hgrow
       go_wp2_with fail
       go_roundw
       case rel=>exact⟨k+1,g',cp',by omega,by go_num,by rw [unhide HY,List.length_append];rfl,by rw [unhide HY,List.length_append,GR.flat_append,GR.flat_one];exact unhide HO2,fun e=>by rw [unhide HY] at e;simp at e,unhide HB2'⟩
       case measure=>simp[intOf];omega
      ·have HY:=hide (idsTo_no s0 mL k hlt hge)
       generalize s0.ids[k]=x at *
       have hd:decide (lowS s0 mL≤x)=false:=decide_eq_false hge
       go_wp2_with fail
       go_quiet (fail)
       go_wp2_with fail
       go_roundw
       case rel=>exact⟨k+1,g,cp,by omega,by go_num,by rw [unhide HY],by rw [unhide HY];exact hown,by rw [unhide HY];exact unhide HCP0,(unhide HBL).trans ⟨rfl,rfl,rfl,Nat.le_refl _,fun _ _=>rfl⟩⟩
       case measure=>simp[intOf];omega
     ·have hke:k=s0.ids.length:=by omega
      subst hke
      have hd:decide ((s0.ids.length:Int) < (s0.ids.length:Int))=false:=by simp
      rw [idsTo_all] at hown HCP0
      have hsl':(Value.slice (some ⟨g,0,none⟩) (idsTo s0 mL s0.ids.length).length cp)= .slice (some ⟨g,0,none⟩) (idsS s0 mL).length cp:=by rw [idsTo_all]
      rw [idsTo_all]
      go_wp2_with fail
      go_meet
      case rel=>exact⟨g,cp,rfl,hown,unhide HCP0,unhide HBL⟩
   case rest=>
    obtain⟨gi,ccp,rfl,hown4,hcp4,hb4⟩:=hcut
    have HS_4:=hide (obj_step (unhide HS_3) hb4)
    have HN_4:=hide (obj_step (unhide HN_3) hb4)
    have HM_4:=hide (obj_step (unhide HM_3) hb4)
    have HR_4:=hide (obj_step (unhide HR_3) hb4)
    have HB4:=hide ((unhide HB3).trans (hb4.mono (unhide HB3).size))
    have HNO4:=hide ((unhide HNO3).kc (k:=9) (KC.of_below hb4) (by omega))
    have hgi:W3.heap.size≤gi:=(hown4.lt gi rfl).1
    have hgiu:gi < wc.heap.size:=(hown4.lt gi rfl).2
    have hccp:(idsS s0 mL).length≤ccp:=by
     rcases hown4.2 with⟨h1,_⟩|⟨g1,cap1,cur1,hv1,_,_,hnc1,_⟩
     ·simp at h1
     ·simp only[Value.slice.injEq] at hv1
      omega
    have hsb4:=obj_lt (unhide HS_4)
    have hIL:(idsS s0 mL).length≤1000:=Nat.le_trans (List.length_filter_le _ _) hil
    have hW5:WO (wc.setCell ⟨sb,2,none⟩ (.slice (some ⟨gi,0,none⟩) (idsS s0 mL).length ccp)) (some ⟨gi,0,none⟩) ccp gi (idsS s0 mL):=(WO.of_own (W_own encNum_length hown4) hown4 hcp4).keeps (KeepsL.set _) (fun x hx hm=>by have h1:=(of_fp hx).1;simp at hm;omega)
    have HNO5:=hide ((unhide HNO4).kc (k:=9) (w':=wc.setCell ⟨sb,2,none⟩ (.slice (some ⟨gi,0,none⟩) (idsS s0 mL).length ccp)) (KC.set (newC_new (by omega))) (by omega))
    have HNO6:=hide ((unhide HNO5).seenPut i hi ⟨mF,lowS s0 mL,idsS s0 mL⟩ (some ⟨gi,0,none⟩) ccp gi hW5 (fun x hx=>by rw [(of_fp hx).1];exact newC_new (by omega)))
    have hgsn:G.s≠w.heap.size:=by omega
    obtain⟨T,hT,hlT,hrT⟩:=(unhide HNO4).s
    obtain⟨_,_,hcT⟩:=hT i (by omega)
    have hTi:∀j,j < 3→∃u,wc.cell? ⟨G.s,i*3+j,none⟩=some u∧wc.frozen? ⟨G.s,i*3+j,none⟩=false:=fun j hj=>⟨_,(hcT j hj).1.trans (List.getElem?_eq_getElem (by rw [encR3_length];exact hj)),(hcT j hj).2⟩
    obtain⟨v0,y0,x0⟩:=hTi 0 (by omega)
    obtain⟨v1,y1,x1⟩:=hTi 1 (by omega)
    obtain⟨v2,y2,x2⟩:=hTi 2 (by omega)
    rw [Nat.add_zero] at y0 x0
    clear hTi hcT hrT hT hlT T hown4 hb4 HNO4 HN_3 HM_3 HR_3 HB3 HNO3 HWI3 HS_3
    have hgsl2:G.s < wc.heap.size:=by omega
    obtain⟨c0,c1,c2,c3,c4,c5,c6,c7,c8⟩:=nine (unhide HN_4)
    obtain⟨s40,s41,s42⟩:=threeC (unhide HS_4)
    have sf:=obj_free (unhide HS_4) 2
    have hnl:=obj_lt (unhide HN_4)
    have hne1:sb≠G.s:=by omega
    have hne2:G.s≠sb:=by omega
    go_upto_region 15 with fail
    refine wp_at (fun W6 hW6=>?_)
    have HNW:Hid (NQ W6 B (setSeen n (n.seen.set i ⟨mF,lowS s0 mL,idsS s0 mL⟩)) (⟨a_k,(some ⟨gp,0,none⟩),a_o,(some ⟨G.s,0,none⟩),a_r,a_ck,a_cp,a_co,a_cs,a_cr⟩:Ads) ⟨G.k,G.p,G.o,G.s,G.r,setI G.i i gi⟩ (col5 gi (idsS s0 mL) (newC w.heap.size 9 c))):=by rw [hW6];exact unhide HNO6
    have hk6:KeepsL [sb,G.s] wc W6:=by
     rw [hW6]
     exact((KeepsL.set _).mono (by simp)).trans ((setW_keeps [.int .i64 mF,.int .i64 (lowS s0 mL),.slice (some ⟨gi,0,none⟩) (idsS s0 mL).length ccp] _ (i*3)).mono (by simp))
    have HIW:Hid (GR.W encNum 1 W6 (some ⟨gi,0,none⟩) gi (idsS s0 mL)):=by
     rw [hW6]
     exact hW5.W.keeps (setW_keeps [.int .i64 mF,.int .i64 (lowS s0 mL),.slice (some ⟨gi,0,none⟩) (idsS s0 mL).length ccp] _ (i*3)) (fun x hx hm=>by have h1:=(of_fp hx).1;simp at hm;omega)
    have HS_6:Hid (W6.heap[sb]?=some (.cells #[.int .i64 mF,.int .i64 (lowS s0 mL),.slice (some ⟨gi,0,none⟩) (idsS s0 mL).length ccp] 71 (0,0))):=by rw [hW6];exact obj_set _ hne1 (obj_set _ hne1 (obj_set _ hne1 (blk_setO (unhide HS_4) 2 _)))
    have HN_6:=hide (hk6.obj (unhide HN_4) (fun hx=>by simp at hx;omega))
    have HM_6:=hide (hk6.obj (unhide HM_4) (fun hx=>by simp at hx;omega))
    have HR_6:=hide (hk6.obj (unhide HR_4) (fun hx=>by simp at hx;omega))
    have hBs:B≤G.s:=by
     rcases Nat.lt_or_ge G.s B with h1|h1
     ·have h2:=(unhide HNO).lo G.s h1
      rw [newC_old (by omega),hc4] at h2
      omega
     ·exact h1
    have HBB6:=hide (((unhide HB4).mono hB).trans (hk6.below (B:=B) (fun x hx=>by simp at hx;omega) (Nat.le_trans hB (unhide HB4).size)))
    have HKA6:=hide (Apart.keeps (c:=c) (Apart.of_below (unhide HB4)) (unhide HB4).size hk6 (fun x hx=>by
     have h1:x=sb∨x=G.s:=by simpa using hx
     rcases h1 with rfl|rfl
     ·left;omega
     ·right;omega))
    have hgiw:gi < W6.heap.size:=Nat.lt_of_lt_of_le hgiu hk6.size
    have hsz6:w.heap.size+3≤W6.heap.size:=by have:=obj_lt (unhide HS_6);omega
    have HCO:Hid (∀x,x < w.heap.size→6 < c x→col5 gi (idsS s0 mL) (newC w.heap.size 9 c) x=9):=fun x hx h=>by rw [col5_out (fun hm=>by have:=(of_fp hm).1;omega),newC_old hx];exact unhide H9 x h
    have HCN:Hid (∀x,w.heap.size≤x→x≠gi→col5 gi (idsS s0 mL) (newC w.heap.size 9 c) x=9):=fun x hx h=>by rw [col5_out (fun hm=>h (of_fp hm).1)];exact newC_new hx
    clear hW6 hk6 hW5 HNO6 y0 y1 y2 x0 x1 x2 s40 s41 s42 sf c0 c1 c2 c3 c4 c5 c6 c7 c8 hnl HN_4 HM_4 HR_4 HS_4 HB4
    obtain⟨c0,c1,c2,c3,c4,c5,c6,c7,c8⟩:=nine (unhide HN_6)
    obtain⟨m0,m1,m2,m3,m4,m5,m6⟩:=sevenC (unhide HM_6)
    have hnl:=obj_lt (unhide HN_6)
    have hml:=obj_lt (unhide HM_6)
    go_upto_region 16 with fail
    refine wp_at (fun W7 hW7=>?_)
    have hb7:=below_one W6 (.cells #[.int .i64 2,.int .i64 n.id,.int .i64 mF,.int .i64 mI,.int .i64 0,.string ⟨#[]⟩,.int .i64 0] 37)
    have ha7:=heap_alloc_new W6 (.cells #[.int .i64 2,.int .i64 n.id,.int .i64 mF,.int .i64 mI,.int .i64 0,.string ⟨#[]⟩,.int .i64 0] 37)
    rw [←hW7] at hb7 ha7
    have HA_7:=hide ha7
    have HN_7:=hide (obj_step (unhide HN_6) hb7)
    have HM_7:=hide (obj_step (unhide HM_6) hb7)
    have HR_7:=hide (obj_step (unhide HR_6) hb7)
    have HS_7:=hide (obj_step (unhide HS_6) hb7)
    have HIW7:=hide ((unhide HIW).below hb7)
    have HNW7:=hide ((unhide HNW).kc (k:=9) (KC.of_below hb7) (by omega))
    have HBB7:=hide ((unhide HBB6).trans (hb7.mono (Nat.le_trans hB (by omega))))
    have HKA7:=hide ((unhide HKA6).step (by omega) hb7)
    obtain⟨ab,hab⟩:∃ab,W6.heap.size=ab:=⟨_,rfl⟩
    have hab3:w.heap.size+3≤ab:=by omega
    have habs:sb < ab:=by have:=obj_lt (unhide HS_6);omega
    have hagi:gi < ab:=by omega
    rw [hab] at HA_7
    rw [hab] at *
    have hz7:=obj_lt (unhide HA_7)
    clear hW7 hb7 ha7 c0 c1 c2 c3 c4 c5 c6 c7 c8 m0 m1 m2 m3 m4 m5 m6 hnl hml HN_6 HM_6 HR_6 HS_6 HIW HNW HBB6 HKA6
    obtain⟨m0,m1,m2,m3,m4,m5,m6⟩:=sevenC (unhide HM_7)
    obtain⟨s70,s71,s72⟩:=threeC (unhide HS_7)
    have hml:=obj_lt (unhide HM_7)
    have hsl7:=obj_lt (unhide HS_7)
    have HHAS:=hide (fun W (ha:IntsAt W (some ⟨gi,0,none⟩) (idsS s0 mL))=>specHas (some ⟨gi,0,none⟩) ccp (idsS s0 mL) mI W (by omega) ha)
    have hm1:¬mI < lowS s0 mL:=fun h=>by unfold hasS at hhas;rw [decide_eq_true h] at hhas;simp at hhas
    have hd:decide (mI < lowS s0 mL)=false:=decide_eq_false hm1
    have hb:hasB (idsS s0 mL) mI=false:=by unfold hasS at hhas;rw [hd] at hhas;simpa using hhas
    rw [hb] at HHAS
    obtain⟨c0,c1,c2,c3,c4,c5,c6,c7,c8⟩:=nine (unhide HN_7)
    have hnl:=obj_lt (unhide HN_7)
    go_wp2_with (go_at_call 41;refine(unhide HHAS _ (unhide HIW7).at).mono ?_;rintro e wh ⟨rfl,rfl⟩)
    refine(unhide HSP W7 (unhide HNW7).at.p).mono ?_
    rintro e W8 ⟨v8,rfl,hne8,hrow8,hb8⟩
    obtain⟨av,cv,rfl,_⟩:=GR.own_at (enc:=encP) (sz:=4) encP_length hrow8
    have HRW:=hide (Lies.own encP_length hrow8)
    have HA_8:=hide (obj_step (unhide HA_7) hb8)
    have HN_8:=hide (obj_step (unhide HN_7) hb8)
    have HM_8:=hide (obj_step (unhide HM_7) hb8)
    have HR_8:=hide (obj_step (unhide HR_7) hb8)
    have HS_8:=hide (obj_step (unhide HS_7) hb8)
    have HIW8:=hide ((unhide HIW7).below hb8)
    have HNW8:=hide ((unhide HNW7).kc (k:=9) (KC.of_below hb8) (by omega))
    have HBB8:=hide ((unhide HBB7).trans (hb8.mono (by omega)))
    have HKA8:=hide ((unhide HKA7).step (by omega) hb8)
    have hz8:W7.heap.size≤W8.heap.size:=hb8.size
    clear hb8 hne8 hrow8 HSP HHAS c0 c1 c2 c3 c4 c5 c6 c7 c8 m0 m1 m2 m3 m4 m5 m6 s70 s71 s72 hnl hml hsl7 HA_7 HN_7 HM_7 HR_7 HS_7 HIW7 HNW7 HBB7 HKA7
    have hb9:=below_one W8 (.cells #[] 37)
    have HN_9:=hide (obj_step (unhide HN_8) hb9)
    have HR_9:=hide (obj_step (unhide HR_8) hb9)
    have HNW9:=hide ((unhide HNW8).kc (k:=9) (KC.of_below hb9) (by omega))
    have HBB9:=hide ((unhide HBB8).trans (hb9.mono (by omega)))
    have HKA9:=hide ((unhide HKA8).step (by omega) hb9)
    have hz9:(W8.alloc (.cells #[] 37)).heap.size=W8.heap.size+1:=by simp
    clear hb9
    obtain⟨c0,c1,c2,c3,c4,c5,c6,c7,c8⟩:=nine (unhide HN_8)
    obtain⟨d0,d1,d2,d3,d4,d5,d6,d7,d8⟩:=nine (unhide HR_9)
    have f0:=obj_free (unhide HR_9) 0
    have f1:=obj_free (unhide HR_9) 1
    have f2:=obj_free (unhide HR_9) 2
    have f3:=obj_free (unhide HR_9) 3
    have f4:=obj_free (unhide HR_9) 4
    have f5:=obj_free (unhide HR_9) 5
    have f6:=obj_free (unhide HR_9) 6
    have f7:=obj_free (unhide HR_9) 7
    have f8:=obj_free (unhide HR_9) 8
    have hnl:=obj_lt (unhide HN_8)
    have hrl:=obj_lt (unhide HR_9)
    cases ok
    ·go_wp2_with fail
     refine bodyPost_atN (fun W' hW'=>?_)
     have e4:W'.heap[w.heap.size+2]?=some (.cells #[.int .i64 n.id,.int .i64 n.par,.slice a_k n.kids.length a_ck,.int .i64 n.next,.slice (some ⟨gp,0,none⟩) n.pu.length a_cp,.slice a_o n.out.length a_co,.slice (some ⟨G.s,0,none⟩) n.seen.length a_cs,.int .i64 n.old,.slice a_r n.reqs.length a_cr] 30 (0,0)):=by
      rw [hW']
      exact GR.setW_blk [.int .i64 n.id,.int .i64 n.par,.slice a_k n.kids.length a_ck,.int .i64 n.next,.slice (some ⟨gp,0,none⟩) n.pu.length a_cp,.slice a_o n.out.length a_co,.slice (some ⟨G.s,0,none⟩) n.seen.length a_cs,.int .i64 n.old,.slice a_r n.reqs.length a_cr] (o:=0) (xs:=[.int .i64 0,.int .i64 0,.slice none 0 0,.int .i64 0,.slice none 0 0,.slice none 0 0,.slice none 0 0,.int .i64 0,.slice none 0 0]) (unhide HR_9)
     have hkf:KeepsL [w.heap.size+2] (W8.alloc (.cells #[] 37)) W':=by
      rw [hW']
      exact setW_keeps [.int .i64 n.id,.int .i64 n.par,.slice a_k n.kids.length a_ck,.int .i64 n.next,.slice (some ⟨gp,0,none⟩) n.pu.length a_cp,.slice a_o n.out.length a_co,.slice (some ⟨G.s,0,none⟩) n.seen.length a_cs,.int .i64 n.old,.slice a_r n.reqs.length a_cr] (W8.alloc (.cells #[] 37)) 0
     have hrne:w.heap.size+2≠gi:=by omega
     have HNF:=hide ((unhide HNW9).kc (k:=9) (KC.keeps hkf (fun x hx=>by have:x=w.heap.size+2:=(by simpa using hx);rw [this];exact unhide HCN _ (by omega) hrne)) (by omega))
     have HAT:Hid (∀W'',Out c w W' W''→RM W'' (⟨a_k,(some ⟨gp,0,none⟩),a_o,(some ⟨G.s,0,none⟩),a_r,a_ck,a_cp,a_co,a_cs,a_cr⟩:Ads) (setSeen n (n.seen.set i ⟨mF,lowS s0 mL,idsS s0 mL⟩))):=fun W'' ho=>by
      obtain⟨F,hk,hF⟩:=ho
      have hold:=((unhide HNF).kc (k:=9) (KC.keeps hk (fun x hx=>unhide HCO x (hF x hx).1 (hF x hx).2)) (by omega))
      have ho:Out c w W' W'':=⟨F,hk,hF⟩
      exact hold.rm
     have HAM:Hid (∀W'',Out c w W' W''→GR.At encM 7 W'' (some ⟨W8.heap.size,0,none⟩) []):=fun W'' ho j hj=>(by simp at hj)
     have HBF:Hid (Below B w W'):=(unhide HBB9).trans (hkf.below (fun x hx=>by have:x=w.heap.size+2:=(by simpa using hx);omega) (by have h1:=obj_lt (unhide HR_9);omega))
     have HKF:=hide (Apart.keeps (c:=c) (unhide HKA9) (by have h1:=obj_lt (unhide HR_9);omega) hkf (fun x hx=>by have:x=w.heap.size+2:=(by simpa using hx);omega))
     obtain⟨x0,x1,x2,x3,x4,x5,x6,x7,x8⟩:=nine e4
     clear hW' e4 hkf
     first
      |exact bodyPost_ret (v:= .tuple #[.agg #[.int .i64 n.id,.int .i64 n.par,.slice a_k n.kids.length a_ck,.int .i64 n.next,.slice (some ⟨gp,0,none⟩) n.pu.length a_cp,.slice a_o n.out.length a_co,.slice (some ⟨G.s,0,none⟩) n.seen.length a_cs,.int .i64 n.old,.slice a_r n.reqs.length a_cr],.slice (some ⟨W8.heap.size,0,none⟩) 0 0,.int .i64 1]) (by simp[results,Tryz.results68,go_sem,x0,x1,x2,x3,x4,x5,x6,x7,x8]) rfl ⟨(⟨a_k,(some ⟨gp,0,none⟩),a_o,(some ⟨G.s,0,none⟩),a_r,a_ck,a_cp,a_co,a_cs,a_cr⟩:Ads),(some ⟨W8.heap.size,0,none⟩),⟨0,by simp[ndv,ndc,setSeen]⟩,unhide HAT,unhide HAM,unhide HBF,unhide HKF⟩
      |exact bodyPost_ret (v:= .tuple #[.agg #[.int .i64 n.id,.int .i64 n.par,.slice a_k n.kids.length a_ck,.int .i64 n.next,.slice (some ⟨gp,0,none⟩) n.pu.length a_cp,.slice a_o n.out.length a_co,.slice (some ⟨G.s,0,none⟩) n.seen.length a_cs,.int .i64 n.old,.slice a_r n.reqs.length a_cr],.slice (some ⟨W8.heap.size,0,none⟩) 0 0,.int .i64 1]) (by simp[results,Tryz.results68,go_sem,x0,x1,x2,x3,x4,x5,x6,x7,x8]) rfl ⟨(⟨a_k,(some ⟨gp,0,none⟩),a_o,(some ⟨G.s,0,none⟩),a_r,a_ck,a_cp,a_co,a_cs,a_cr⟩:Ads),(some ⟨W8.heap.size,0,none⟩),0,by simp[ndv,ndc,setSeen],unhide HAT,unhide HAM,unhide HBF,unhide HKF⟩
    ·have h40:40≤(idsS s0 mL).length:=by
      rcases hgn with h|h
      ·cases h
      ·exact h
     have hd40:decide ((40:Int)≤((idsS s0 mL).length:Int))=true:=decide_eq_true (by omega)
     go_wp2_with fail
     refine bodyPost_atN (fun W' hW'=>?_)
     have e4:W'.heap[w.heap.size+2]?=some (.cells #[.int .i64 n.id,.int .i64 n.par,.slice a_k n.kids.length a_ck,.int .i64 n.next,.slice (some ⟨gp,0,none⟩) n.pu.length a_cp,.slice a_o n.out.length a_co,.slice (some ⟨G.s,0,none⟩) n.seen.length a_cs,.int .i64 n.old,.slice a_r n.reqs.length a_cr] 30 (0,0)):=by
      rw [hW']
      exact GR.setW_blk [.int .i64 n.id,.int .i64 n.par,.slice a_k n.kids.length a_ck,.int .i64 n.next,.slice (some ⟨gp,0,none⟩) n.pu.length a_cp,.slice a_o n.out.length a_co,.slice (some ⟨G.s,0,none⟩) n.seen.length a_cs,.int .i64 n.old,.slice a_r n.reqs.length a_cr] (o:=0) (xs:=[.int .i64 0,.int .i64 0,.slice none 0 0,.int .i64 0,.slice none 0 0,.slice none 0 0,.slice none 0 0,.int .i64 0,.slice none 0 0]) (unhide HR_9)
     have hkf:KeepsL [w.heap.size+2] (W8.alloc (.cells #[] 37)) W':=by
      rw [hW']
      exact setW_keeps [.int .i64 n.id,.int .i64 n.par,.slice a_k n.kids.length a_ck,.int .i64 n.next,.slice (some ⟨gp,0,none⟩) n.pu.length a_cp,.slice a_o n.out.length a_co,.slice (some ⟨G.s,0,none⟩) n.seen.length a_cs,.int .i64 n.old,.slice a_r n.reqs.length a_cr] (W8.alloc (.cells #[] 37)) 0
     have hrne:w.heap.size+2≠gi:=by omega
     have HNF:=hide ((unhide HNW9).kc (k:=9) (KC.keeps hkf (fun x hx=>by have:x=w.heap.size+2:=(by simpa using hx);rw [this];exact unhide HCN _ (by omega) hrne)) (by omega))
     have HAT:Hid (∀W'',Out c w W' W''→RM W'' (⟨a_k,(some ⟨gp,0,none⟩),a_o,(some ⟨G.s,0,none⟩),a_r,a_ck,a_cp,a_co,a_cs,a_cr⟩:Ads) (setSeen n (n.seen.set i ⟨mF,lowS s0 mL,idsS s0 mL⟩))):=fun W'' ho=>by
      obtain⟨F,hk,hF⟩:=ho
      have hold:=((unhide HNF).kc (k:=9) (KC.keeps hk (fun x hx=>unhide HCO x (hF x hx).1 (hF x hx).2)) (by omega))
      have ho:Out c w W' W'':=⟨F,hk,hF⟩
      exact hold.rm
     have HAM:Hid (∀W'',Out c w W' W''→GR.At encM 7 W'' (some ⟨W8.heap.size,0,none⟩) []):=fun W'' ho j hj=>(by simp at hj)
     have HBF:Hid (Below B w W'):=(unhide HBB9).trans (hkf.below (fun x hx=>by have:x=w.heap.size+2:=(by simpa using hx);omega) (by have h1:=obj_lt (unhide HR_9);omega))
     have HKF:=hide (Apart.keeps (c:=c) (unhide HKA9) (by have h1:=obj_lt (unhide HR_9);omega) hkf (fun x hx=>by have:x=w.heap.size+2:=(by simpa using hx);omega))
     obtain⟨x0,x1,x2,x3,x4,x5,x6,x7,x8⟩:=nine e4
     clear hW' e4 hkf
     first
      |exact bodyPost_ret (v:= .tuple #[.agg #[.int .i64 n.id,.int .i64 n.par,.slice a_k n.kids.length a_ck,.int .i64 n.next,.slice (some ⟨gp,0,none⟩) n.pu.length a_cp,.slice a_o n.out.length a_co,.slice (some ⟨G.s,0,none⟩) n.seen.length a_cs,.int .i64 n.old,.slice a_r n.reqs.length a_cr],.slice (some ⟨W8.heap.size,0,none⟩) 0 0,.int .i64 1]) (by simp[results,Tryz.results68,go_sem,x0,x1,x2,x3,x4,x5,x6,x7,x8]) rfl ⟨(⟨a_k,(some ⟨gp,0,none⟩),a_o,(some ⟨G.s,0,none⟩),a_r,a_ck,a_cp,a_co,a_cs,a_cr⟩:Ads),(some ⟨W8.heap.size,0,none⟩),⟨0,by simp[ndv,ndc,setSeen]⟩,unhide HAT,unhide HAM,unhide HBF,unhide HKF⟩
      |exact bodyPost_ret (v:= .tuple #[.agg #[.int .i64 n.id,.int .i64 n.par,.slice a_k n.kids.length a_ck,.int .i64 n.next,.slice (some ⟨gp,0,none⟩) n.pu.length a_cp,.slice a_o n.out.length a_co,.slice (some ⟨G.s,0,none⟩) n.seen.length a_cs,.int .i64 n.old,.slice a_r n.reqs.length a_cr],.slice (some ⟨W8.heap.size,0,none⟩) 0 0,.int .i64 1]) (by simp[results,Tryz.results68,go_sem,x0,x1,x2,x3,x4,x5,x6,x7,x8]) rfl ⟨(⟨a_k,(some ⟨gp,0,none⟩),a_o,(some ⟨G.s,0,none⟩),a_r,a_ck,a_cp,a_co,a_cs,a_cr⟩:Ads),(some ⟨W8.heap.size,0,none⟩),0,by simp[ndv,ndc,setSeen],unhide HAT,unhide HAM,unhide HBF,unhide HKF⟩
theorem specTake_gain (n:Nd) (a_k a_p a_o a_s a_r:Option Addr) (a_ck a_cp a_co a_cs a_cr:Nat) (G:Blks) (c:Nat→Nat) (mK mF mT mI mL:Int) (mk:ByteArray) (mN:Int) (w:World) (B:Nat) (hB:B≤w.heap.size) (h9:∀x,6 < c x→c x=9) (i:Nat) (hi:i < n.seen.length) (s0:Sn) (hs0:n.seen[i]=s0) (hfi:s0.f=mF) (hbef:∀x (hx:x < n.seen.length),x < i→n.seen[x].f≠mF) (hsl:n.seen.length≤1000) (hil:s0.ids.length≤1000) (hz:NdSz n 1048576) (hmk:mk.size≤1048576) (hP:∃g,a_p=some ⟨g,0,none⟩) (hPc:n.pu.length≤a_cp) (RL:List Pu) (hu:addP n.pu mk 0 1 0 mN=(RL,true)) (hhas:hasS s0 mL mI=false) (hgn:(idsS s0 mL).length < 40) (h:NQ w B n (⟨a_k,a_p,a_o,a_s,a_r,a_ck,a_cp,a_co,a_cs,a_cr⟩:Ads) G c):Calls Tryz.prog 68 #[ndv n (⟨a_k,a_p,a_o,a_s,a_r,a_ck,a_cp,a_co,a_cs,a_cr⟩:Ads),.agg #[.int .i64 mK,.int .i64 mF,.int .i64 mT,.int .i64 mI,.int .i64 mL,.string mk,.int .i64 mN]] w (GivesT w B c (setSeen (setPu n RL) (n.seen.set i ⟨mF,lowS s0 mL,insI (idsS s0 mL) mI⟩),[⟨2,n.id,mF,mI,0,ByteArray.empty,0⟩],0)):=by
 obtain⟨gp,hgp⟩:=hP
 subst hgp
 have HSP:=hide (fun W (ha:PursesAt W (some ⟨gp,0,none⟩) n.pu)=>specGain gp 0 a_cp n.pu mk mN W (Nat.le_trans hz.p (by omega)) hPc hz.pk hmk ha)
 unfold GivesO at HSP
 rw [hu] at HSP
 clear hu hz hPc
 unfold GivesT
 have H9:=hide h9
 clear h9
 have HNO:=hide (h.nine hB)
 have HGS:=hide (h.s)
 have hc4:c G.s=4:=h.c4 G.s (fp_mem (by omega))
 clear h
 go_enter Tryz.func68,Tryz.ntmps68
 go_upto_region 1 with fail
 refine wp_at (fun W0 hW=>?_)
 obtain⟨e1,e2,e3,e4⟩:=allocs3E w (.cells (ndc n (⟨a_k,(some ⟨gp,0,none⟩),a_o,a_s,a_r,a_ck,a_cp,a_co,a_cs,a_cr⟩:Ads)) 30) (.cells #[.int .i64 mK,.int .i64 mF,.int .i64 mT,.int .i64 mI,.int .i64 mL,.string mk,.int .i64 mN] 37) (.cells zc9 30)
 rw [←hW] at e1 e2 e3 e4
 have HN_0:=hide e1
 have HM_0:=hide e2
 have HR_0:=hide e3
 have HB0:=hide e4
 have HNO0:=hide ((unhide HNO).kc (k:=9) (KC.of_below e4) (by omega))
 clear hW e1 e2 e3 e4
 obtain⟨bi,ci,eA,hgs0,⟨t0,t1,t2⟩,_,hWi⟩:=SeenW.three (unhide HNO0).s i hi
 rw [hs0] at t0 t1 t2 hWi
 rw [hfi] at t0
 have hgsl:G.s < w.heap.size:=obj_lt_W (unhide HGS) (by omega)
 have HWI:=hide hWi
 have HT:=hide (And.intro t0 (And.intro t1 t2))
 clear hWi t0 t1 t2
 dsimp only at eA
 subst eA
 obtain⟨c0,c1,c2,c3,c4,c5,c6,c7,c8⟩:=nine (unhide HN_0)
 obtain⟨m0,m1,m2,m3,m4,m5,m6⟩:=sevenC (unhide HM_0)
 have hnl:=obj_lt (unhide HN_0)
 have hml:=obj_lt (unhide HM_0)
 go_upto_block 0 with fail
 go_cut [7] from 15 (fun j wx=>j= .int .i64 (i:Nat)∧Ge W0 wx)
 case first=>
  go_wp2_with fail
  go_loopw [7] (fun j wr=>∃x q:Nat,x≤i∧j= .int .i64 x∧wr=W0.drewN q) (fun j _=>i - (intOf j).toNat)
  case atStart=>exact⟨0,0,Nat.zero_le _,rfl,rfl⟩
  case round=>
   obtain⟨x,q,hx,rfl,rfl⟩:=hrel
   have hxl:x < n.seen.length:=by omega
   obtain⟨b',c',e',hg',⟨u0,_,_⟩,_,_⟩:=SeenW.three (unhide HNO0).s x hxl
   by_cases hxi:x=i
   ·subst hxi
    rw [hs0,hfi] at u0
    have hnn:(mF != mF)=false:=by simp
    go_wp2_with fail
    go_quiet (fail)
    go_wp2_with fail
    go_meet
    case rel=>exact⟨rfl,⟨rfl,rfl,rfl,Nat.le_refl _,fun _ _=>rfl⟩⟩
   ·have hne:=hbef x hxl (by omega)
    generalize n.seen[x].f=fx at *
    have hnn:(fx != mF)=true:=by simpa using hne
    go_wp2_with fail
    go_quiet (fail)
    go_wp2_with fail
    go_roundw
    case rel=>exact⟨x+1,_,by omega,by go_num,rfl⟩
    case measure=>simp[intOf];omega
 case rest=>
  obtain⟨rfl,hge⟩:=hcut
  have HN_1:=hide (obj_step (unhide HN_0) hge)
  have HM_1:=hide (obj_step (unhide HM_0) hge)
  have HR_1:=hide (obj_step (unhide HR_0) hge)
  have HB1:=hide ((unhide HB0).trans (hge.mono (unhide HB0).size))
  have HNO1:=hide ((unhide HNO0).kc (k:=9) (KC.of_below hge) (by omega))
  have HWI1:=hide ((unhide HWI).below hge)
  have hz1:w.heap.size+3≤wc.heap.size:=by have:=obj_lt (unhide HR_1);omega
  obtain⟨t0,t1,t2⟩:=unhide HT
  have u0:=(hge.cell (p:=⟨G.s,i*3,none⟩) hgs0).trans t0
  have u1:=(hge.cell (p:=⟨G.s,i*3+1,none⟩) hgs0).trans t1
  have u2:=(hge.cell (p:=⟨G.s,i*3+2,none⟩) hgs0).trans t2
  clear t0 t1 t2 hge c0 c1 c2 c3 c4 c5 c6 c7 c8 m0 m1 m2 m3 m4 m5 m6 hnl hml HN_0 HM_0 HR_0 HB0 HNO0 HWI HT
  obtain⟨c0,c1,c2,c3,c4,c5,c6,c7,c8⟩:=nine (unhide HN_1)
  have hnl:=obj_lt (unhide HN_1)
  have hisl:(i:Int) < (n.seen.length:Int):=by omega
  go_upto_region 5 with fail
  refine wp_at (fun W2 hW2=>?_)
  have hb2:=below_one wc (.cells #[.int .i64 mF,.int .i64 s0.l,.slice bi s0.ids.length ci] 71)
  have hs2:=heap_alloc_new wc (.cells #[.int .i64 mF,.int .i64 s0.l,.slice bi s0.ids.length ci] 71)
  rw [←hW2] at hb2 hs2
  obtain⟨sb,hsb⟩:∃sb,wc.heap.size=sb:=⟨_,rfl⟩
  rw [hsb] at hs2 hz1
  have HS_2:=hide hs2
  have HN_2:=hide (obj_step (unhide HN_1) hb2)
  have HM_2:=hide (obj_step (unhide HM_1) hb2)
  have HR_2:=hide (obj_step (unhide HR_1) hb2)
  have HB2:=hide ((unhide HB1).trans (hb2.mono (unhide HB1).size))
  have HNO2:=hide ((unhide HNO1).kc (k:=9) (KC.of_below hb2) (by omega))
  have HWI2:=hide ((unhide HWI1).below hb2)
  have hilt:∀x∈fp (G.i i) s0.ids,x < sb:=fun x hx=>by rw [←hsb];exact W_lt (unhide HWI1) x hx
  rw [hsb] at *
  clear hW2 hb2 hs2 u0 u1 u2 c0 c1 c2 c3 c4 c5 c6 c7 c8 hnl HN_1 HM_1 HR_1 HB1 HNO1 HWI1
  obtain⟨m0,m1,m2,m3,m4,m5,m6⟩:=sevenC (unhide HM_2)
  obtain⟨s00,s01,s02⟩:=threeC (unhide HS_2)
  have sf:=obj_free (unhide HS_2) 1
  have hml:=obj_lt (unhide HM_2)
  have hsl2:=obj_lt (unhide HS_2)
  go_upto_if 35 with fail
  go_cut [8] from 15 (fun p wx=>p= .pointer (some ⟨sb,0,none⟩)∧wx.heap[sb]?=some (.cells #[.int .i64 mF,.int .i64 (lowS s0 mL),.slice bi s0.ids.length ci] 71 (0,0))∧KeepsL [sb] W2 wx)
  case first=>
   by_cases hlow:s0.l < mL
   ·have hd:decide (s0.l < mL)=true:=decide_eq_true hlow
    have HLW:=hide (show lowS s0 mL=mL from if_pos hlow)
    go_wp2_with fail
    go_meet
    case rel=>exact⟨rfl,by rw [unhide HLW];exact blk_setO (unhide HS_2) 1 _,KeepsL.set _⟩
   ·have hd:decide (s0.l < mL)=false:=decide_eq_false hlow
    have HLW:=hide (show lowS s0 mL=s0.l from if_neg hlow)
    go_wp2_with fail
    go_meet
    case rel=>exact⟨rfl,by rw [unhide HLW];exact unhide HS_2,KeepsL.refl _ _⟩
  case rest=>
   obtain⟨rfl,hs3,hk3⟩:=hcut
   clear m0 m1 m2 m3 m4 m5 m6 s00 s01 s02 sf hml hsl2
   go_upto_region 7 with fail
   refine wp_at (fun W3 hW3=>?_)
   subst hW3
   have HS_3:=hide hs3
   have HN_3:=hide (hk3.obj (unhide HN_2) (fun hx=>by simp at hx;omega))
   have HM_3:=hide (hk3.obj (unhide HM_2) (fun hx=>by simp at hx;omega))
   have HR_3:=hide (hk3.obj (unhide HR_2) (fun hx=>by simp at hx;omega))
   have HB3:=hide ((unhide HB2).trans (hk3.below (B:=w.heap.size) (fun x hx=>by simp at hx;omega) (unhide HB2).size))
   have HNO3:=hide ((unhide HNO2).kc (k:=9) (KC.keeps hk3 (fun x hx=>by have:x=sb:=(by simpa using hx);rw [this];exact newC_new (by omega))) (by omega))
   have HWI3:=hide ((unhide HWI2).keeps hk3 (fun x hx hm=>by have h1:=hilt x hx;simp at hm;omega))
   clear hs3 hk3 HN_2 HM_2 HR_2 HB2 HNO2 HWI2 HS_2
   have hsb3:=obj_lt (unhide HS_3)
   obtain⟨i0,hi0,hz0,hz1',hz2⟩:=info_parts infoInt
   go_upto_block 2 with fail
   go_cut [9] from 15 (fun v wx=>∃g cp,v= .slice (some ⟨g,0,none⟩) (idsS s0 mL).length cp∧wx.ownsRow W3.heap.size 3 1 v (idsS s0 mL).length (GR.flat encNum (idsS s0 mL))∧(idsS s0 mL=[]→cp=0)∧Below W3.heap.size W3 wx)
   case first=>
    go_wp2_with fail
    go_loopw [9,10] (fun v j wr=>∃k g cp:Nat,k≤s0.ids.length∧j= .int .i64 k∧v= .slice (some ⟨g,0,none⟩) (idsTo s0 mL k).length cp∧wr.ownsRow W3.heap.size 3 1 v (idsTo s0 mL k).length (GR.flat encNum (idsTo s0 mL k))∧(idsTo s0 mL k=[]→cp=0)∧Below W3.heap.size W3 wr) (fun _ j _=>s0.ids.length - (intOf j).toNat)
    case atStart=>exact⟨0,_,_,Nat.zero_le _,rfl,rfl,World.ownsRow_lit _ #[] 0 (Nat.le_refl _) (by decide) rfl,fun _=>rfl,below_one _ _⟩
    case round=>
     obtain⟨k,g,cp,hk,rfl,rfl,hown,hcp0,hbel⟩:=hrel
     have HCP0:=hide hcp0
     clear hcp0
     have HBL:=hide hbel
     obtain⟨_,s31,s32⟩:=threeC (obj_step (unhide HS_3) hbel)
     clear hbel
     by_cases hlt:k < s0.ids.length
     ·obtain⟨eb,hgb,hcell⟩:=((unhide HWI3).below (unhide HBL)) k hlt
      have y0:=(hcell 0 (by omega)).1
      rw [Nat.mul_one,Nat.add_zero] at y0
      simp only[List.getElem?_cons_zero] at y0
      clear hcell
      subst eb
      have hlen:=idsTo_len s0 mL k
      by_cases hge:lowS s0 mL≤s0.ids[k]
      ·have HY:=hide (idsTo_yes s0 mL k hlt hge)
       generalize s0.ids[k]=x at *
       have hd:decide (lowS s0 mL≤x)=true:=decide_eq_true hge
       go_wp2_with fail
       go_quiet (fail)
       go_wp2_with (at_builtin;refine wpList_append_own _ rfl _ _ 24 rfl W3.heap.size 3 i0 (.int .i64 0) 1 8 Tryz.underlying24 hi0 hz0 hz1' hz2 rfl (by decide) _ _ _ rfl (own_drewN_alloc hown) ⟨wr.heap.size,0,none⟩ 1 1 [.int .i64 x] rfl rfl ?c1 ?c2 ?c3 ?c4 ?c5 ?_)
       case c1=>exact cell_one_new _ _ _
       case c2=>intro u hu;simp at hu;subst hu;rfl
       case c3=>unfold maxLen;omega
       case c4=>omega
       case c5=>have:=(unhide HBL).size;simp;omega
       intro v' w2 hown' hgrow _
       have HB2':=hide (GR.below_append (wr:=wr.drewN nq) ((unhide HBL).trans ⟨rfl,rfl,rfl,Nat.le_refl _,fun _ _=>rfl⟩) (unhide HBL).size hown hgrow)
       obtain⟨g',cp',rfl⟩:∃g' cp',v'= .slice (some ⟨g',0,none⟩) ((idsTo s0 mL k).length+1) cp':=by
        rcases hown'.2 with⟨_,hn⟩|⟨g',cap',cur,hv,_⟩
        ·omega
        ·exact⟨g',cap',hv⟩
       have HO2:=hide hown'
       clear hown' hgrow
       go_wp2_with fail
       go_roundw
       case rel=>exact⟨k+1,g',cp',by omega,by go_num,by rw [unhide HY,List.length_append];rfl,by rw [unhide HY,List.length_append,GR.flat_append,GR.flat_one];exact unhide HO2,fun e=>by rw [unhide HY] at e;simp at e,unhide HB2'⟩
       case measure=>simp[intOf];omega
      ·have HY:=hide (idsTo_no s0 mL k hlt hge)
       generalize s0.ids[k]=x at *
       have hd:decide (lowS s0 mL≤x)=false:=decide_eq_false hge
       go_wp2_with fail
       go_quiet (fail)
       go_wp2_with fail
       go_roundw
       case rel=>exact⟨k+1,g,cp,by omega,by go_num,by rw [unhide HY],by rw [unhide HY];exact hown,by rw [unhide HY];exact unhide HCP0,(unhide HBL).trans ⟨rfl,rfl,rfl,Nat.le_refl _,fun _ _=>rfl⟩⟩
       case measure=>simp[intOf];omega
     ·have hke:k=s0.ids.length:=by omega
      subst hke
      have hd:decide ((s0.ids.length:Int) < (s0.ids.length:Int))=false:=by simp
      rw [idsTo_all] at hown HCP0
      have hsl':(Value.slice (some ⟨g,0,none⟩) (idsTo s0 mL s0.ids.length).length cp)= .slice (some ⟨g,0,none⟩) (idsS s0 mL).length cp:=by rw [idsTo_all]
      rw [idsTo_all]
      go_wp2_with fail
      go_meet
      case rel=>exact⟨g,cp,rfl,hown,unhide HCP0,unhide HBL⟩
   case rest=>
    obtain⟨gi,ccp,rfl,hown4,hcp4,hb4⟩:=hcut
    have HS_4:=hide (obj_step (unhide HS_3) hb4)
    have HN_4:=hide (obj_step (unhide HN_3) hb4)
    have HM_4:=hide (obj_step (unhide HM_3) hb4)
    have HR_4:=hide (obj_step (unhide HR_3) hb4)
    have HB4:=hide ((unhide HB3).trans (hb4.mono (unhide HB3).size))
    have HNO4:=hide ((unhide HNO3).kc (k:=9) (KC.of_below hb4) (by omega))
    have hgi:W3.heap.size≤gi:=(hown4.lt gi rfl).1
    have hgiu:gi < wc.heap.size:=(hown4.lt gi rfl).2
    have hccp:(idsS s0 mL).length≤ccp:=by
     rcases hown4.2 with⟨h1,_⟩|⟨g1,cap1,cur1,hv1,_,_,hnc1,_⟩
     ·simp at h1
     ·simp only[Value.slice.injEq] at hv1
      omega
    have hsb4:=obj_lt (unhide HS_4)
    have hIL:(idsS s0 mL).length≤1000:=Nat.le_trans (List.length_filter_le _ _) hil
    have hW5:WO (wc.setCell ⟨sb,2,none⟩ (.slice (some ⟨gi,0,none⟩) (idsS s0 mL).length ccp)) (some ⟨gi,0,none⟩) ccp gi (idsS s0 mL):=(WO.of_own (W_own encNum_length hown4) hown4 hcp4).keeps (KeepsL.set _) (fun x hx hm=>by have h1:=(of_fp hx).1;simp at hm;omega)
    have HNO5:=hide ((unhide HNO4).kc (k:=9) (w':=wc.setCell ⟨sb,2,none⟩ (.slice (some ⟨gi,0,none⟩) (idsS s0 mL).length ccp)) (KC.set (newC_new (by omega))) (by omega))
    have HNO6:=hide ((unhide HNO5).seenPut i hi ⟨mF,lowS s0 mL,idsS s0 mL⟩ (some ⟨gi,0,none⟩) ccp gi hW5 (fun x hx=>by rw [(of_fp hx).1];exact newC_new (by omega)))
    have hgsn:G.s≠w.heap.size:=by omega
    obtain⟨T,hT,hlT,hrT⟩:=(unhide HNO4).s
    obtain⟨_,_,hcT⟩:=hT i (by omega)
    have hTi:∀j,j < 3→∃u,wc.cell? ⟨G.s,i*3+j,none⟩=some u∧wc.frozen? ⟨G.s,i*3+j,none⟩=false:=fun j hj=>⟨_,(hcT j hj).1.trans (List.getElem?_eq_getElem (by rw [encR3_length];exact hj)),(hcT j hj).2⟩
    obtain⟨v0,y0,x0⟩:=hTi 0 (by omega)
    obtain⟨v1,y1,x1⟩:=hTi 1 (by omega)
    obtain⟨v2,y2,x2⟩:=hTi 2 (by omega)
    rw [Nat.add_zero] at y0 x0
    clear hTi hcT hrT hT hlT T hown4 hb4 HNO4 HN_3 HM_3 HR_3 HB3 HNO3 HWI3 HS_3
    have hgsl2:G.s < wc.heap.size:=by omega
    obtain⟨c0,c1,c2,c3,c4,c5,c6,c7,c8⟩:=nine (unhide HN_4)
    obtain⟨s40,s41,s42⟩:=threeC (unhide HS_4)
    have sf:=obj_free (unhide HS_4) 2
    have hnl:=obj_lt (unhide HN_4)
    have hne1:sb≠G.s:=by omega
    have hne2:G.s≠sb:=by omega
    go_upto_region 15 with fail
    refine wp_at (fun W6 hW6=>?_)
    have HNW:Hid (NQ W6 B (setSeen n (n.seen.set i ⟨mF,lowS s0 mL,idsS s0 mL⟩)) (⟨a_k,(some ⟨gp,0,none⟩),a_o,(some ⟨G.s,0,none⟩),a_r,a_ck,a_cp,a_co,a_cs,a_cr⟩:Ads) ⟨G.k,G.p,G.o,G.s,G.r,setI G.i i gi⟩ (col5 gi (idsS s0 mL) (newC w.heap.size 9 c))):=by rw [hW6];exact unhide HNO6
    have hk6:KeepsL [sb,G.s] wc W6:=by
     rw [hW6]
     exact((KeepsL.set _).mono (by simp)).trans ((setW_keeps [.int .i64 mF,.int .i64 (lowS s0 mL),.slice (some ⟨gi,0,none⟩) (idsS s0 mL).length ccp] _ (i*3)).mono (by simp))
    have HIW:Hid (GR.W encNum 1 W6 (some ⟨gi,0,none⟩) gi (idsS s0 mL)):=by
     rw [hW6]
     exact hW5.W.keeps (setW_keeps [.int .i64 mF,.int .i64 (lowS s0 mL),.slice (some ⟨gi,0,none⟩) (idsS s0 mL).length ccp] _ (i*3)) (fun x hx hm=>by have h1:=(of_fp hx).1;simp at hm;omega)
    have HS_6:Hid (W6.heap[sb]?=some (.cells #[.int .i64 mF,.int .i64 (lowS s0 mL),.slice (some ⟨gi,0,none⟩) (idsS s0 mL).length ccp] 71 (0,0))):=by rw [hW6];exact obj_set _ hne1 (obj_set _ hne1 (obj_set _ hne1 (blk_setO (unhide HS_4) 2 _)))
    have HN_6:=hide (hk6.obj (unhide HN_4) (fun hx=>by simp at hx;omega))
    have HM_6:=hide (hk6.obj (unhide HM_4) (fun hx=>by simp at hx;omega))
    have HR_6:=hide (hk6.obj (unhide HR_4) (fun hx=>by simp at hx;omega))
    have hBs:B≤G.s:=by
     rcases Nat.lt_or_ge G.s B with h1|h1
     ·have h2:=(unhide HNO).lo G.s h1
      rw [newC_old (by omega),hc4] at h2
      omega
     ·exact h1
    have HBB6:=hide (((unhide HB4).mono hB).trans (hk6.below (B:=B) (fun x hx=>by simp at hx;omega) (Nat.le_trans hB (unhide HB4).size)))
    have HKA6:=hide (Apart.keeps (c:=c) (Apart.of_below (unhide HB4)) (unhide HB4).size hk6 (fun x hx=>by
     have h1:x=sb∨x=G.s:=by simpa using hx
     rcases h1 with rfl|rfl
     ·left;omega
     ·right;omega))
    have hgiw:gi < W6.heap.size:=Nat.lt_of_lt_of_le hgiu hk6.size
    have hsz6:w.heap.size+3≤W6.heap.size:=by have:=obj_lt (unhide HS_6);omega
    have HCO:Hid (∀x,x < w.heap.size→6 < c x→col5 gi (idsS s0 mL) (newC w.heap.size 9 c) x=9):=fun x hx h=>by rw [col5_out (fun hm=>by have:=(of_fp hm).1;omega),newC_old hx];exact unhide H9 x h
    have HCN:Hid (∀x,w.heap.size≤x→x≠gi→col5 gi (idsS s0 mL) (newC w.heap.size 9 c) x=9):=fun x hx h=>by rw [col5_out (fun hm=>h (of_fp hm).1)];exact newC_new hx
    clear hW6 hk6 hW5 HNO6 y0 y1 y2 x0 x1 x2 s40 s41 s42 sf c0 c1 c2 c3 c4 c5 c6 c7 c8 hnl HN_4 HM_4 HR_4 HS_4 HB4
    obtain⟨c0,c1,c2,c3,c4,c5,c6,c7,c8⟩:=nine (unhide HN_6)
    obtain⟨m0,m1,m2,m3,m4,m5,m6⟩:=sevenC (unhide HM_6)
    have hnl:=obj_lt (unhide HN_6)
    have hml:=obj_lt (unhide HM_6)
    go_upto_region 16 with fail
    refine wp_at (fun W7 hW7=>?_)
    have hb7:=below_one W6 (.cells #[.int .i64 2,.int .i64 n.id,.int .i64 mF,.int .i64 mI,.int .i64 0,.string ⟨#[]⟩,.int .i64 0] 37)
    have ha7:=heap_alloc_new W6 (.cells #[.int .i64 2,.int .i64 n.id,.int .i64 mF,.int .i64 mI,.int .i64 0,.string ⟨#[]⟩,.int .i64 0] 37)
    rw [←hW7] at hb7 ha7
    have HA_7:=hide ha7
    have HN_7:=hide (obj_step (unhide HN_6) hb7)
    have HM_7:=hide (obj_step (unhide HM_6) hb7)
    have HR_7:=hide (obj_step (unhide HR_6) hb7)
    have HS_7:=hide (obj_step (unhide HS_6) hb7)
    have HIW7:=hide ((unhide HIW).below hb7)
    have HNW7:=hide ((unhide HNW).kc (k:=9) (KC.of_below hb7) (by omega))
    have HBB7:=hide ((unhide HBB6).trans (hb7.mono (Nat.le_trans hB (by omega))))
    have HKA7:=hide ((unhide HKA6).step (by omega) hb7)
    obtain⟨ab,hab⟩:∃ab,W6.heap.size=ab:=⟨_,rfl⟩
    have hab3:w.heap.size+3≤ab:=by omega
    have habs:sb < ab:=by have:=obj_lt (unhide HS_6);omega
    have hagi:gi < ab:=by omega
    rw [hab] at HA_7
    rw [hab] at *
    have hz7:=obj_lt (unhide HA_7)
    clear hW7 hb7 ha7 c0 c1 c2 c3 c4 c5 c6 c7 c8 m0 m1 m2 m3 m4 m5 m6 hnl hml HN_6 HM_6 HR_6 HS_6 HIW HNW HBB6 HKA6
    obtain⟨m0,m1,m2,m3,m4,m5,m6⟩:=sevenC (unhide HM_7)
    obtain⟨s70,s71,s72⟩:=threeC (unhide HS_7)
    have hml:=obj_lt (unhide HM_7)
    have hsl7:=obj_lt (unhide HS_7)
    have HHAS:=hide (fun W (ha:IntsAt W (some ⟨gi,0,none⟩) (idsS s0 mL))=>specHas (some ⟨gi,0,none⟩) ccp (idsS s0 mL) mI W (by omega) ha)
    have hm1:¬mI < lowS s0 mL:=fun h=>by unfold hasS at hhas;rw [decide_eq_true h] at hhas;simp at hhas
    have hd:decide (mI < lowS s0 mL)=false:=decide_eq_false hm1
    have hb:hasB (idsS s0 mL) mI=false:=by unfold hasS at hhas;rw [hd] at hhas;simpa using hhas
    rw [hb] at HHAS
    obtain⟨c0,c1,c2,c3,c4,c5,c6,c7,c8⟩:=nine (unhide HN_7)
    have hnl:=obj_lt (unhide HN_7)
    go_wp2_with (go_at_call 41;refine(unhide HHAS _ (unhide HIW7).at).mono ?_;rintro e wh ⟨rfl,rfl⟩)
    refine(unhide HSP W7 (unhide HNW7).at.p).mono ?_
    rintro e W8 ⟨v8,rfl,hne8,hrow8,hb8⟩
    obtain⟨av,cv,rfl,_⟩:=GR.own_at (enc:=encP) (sz:=4) encP_length hrow8
    have HRW:=hide (Lies.own encP_length hrow8)
    have HA_8:=hide (obj_step (unhide HA_7) hb8)
    have HN_8:=hide (obj_step (unhide HN_7) hb8)
    have HM_8:=hide (obj_step (unhide HM_7) hb8)
    have HR_8:=hide (obj_step (unhide HR_7) hb8)
    have HS_8:=hide (obj_step (unhide HS_7) hb8)
    have HIW8:=hide ((unhide HIW7).below hb8)
    have HNW8:=hide ((unhide HNW7).kc (k:=9) (KC.of_below hb8) (by omega))
    have HBB8:=hide ((unhide HBB7).trans (hb8.mono (by omega)))
    have HKA8:=hide ((unhide HKA7).step (by omega) hb8)
    have hz8:W7.heap.size≤W8.heap.size:=hb8.size
    clear hb8 hne8 hrow8 HSP HHAS c0 c1 c2 c3 c4 c5 c6 c7 c8 m0 m1 m2 m3 m4 m5 m6 s70 s71 s72 hnl hml hsl7 HA_7 HN_7 HM_7 HR_7 HS_7 HIW7 HNW7 HBB7 HKA7
    obtain⟨c0,c1,c2,c3,c4,c5,c6,c7,c8⟩:=nine (unhide HN_8)
    have cf:=obj_free (unhide HN_8) 4
    have hnl:=obj_lt (unhide HN_8)
    have hd40:decide ((40:Int)≤((idsS s0 mL).length:Int))=false:=decide_eq_false (by omega)
    go_upto_region 22 with fail
    refine wp_at (fun W9 hW9=>?_)
    have hnb:w.heap.size≠gi:=by omega
    have hk9:KeepsL [w.heap.size] W8 W9:=by rw [hW9];exact KeepsL.set _
    have HN_9:Hid (W9.heap[w.heap.size]?=some (.cells #[.int .i64 n.id,.int .i64 n.par,.slice a_k n.kids.length a_ck,.int .i64 n.next,.slice av RL.length cv,.slice a_o n.out.length a_co,.slice (some ⟨G.s,0,none⟩) n.seen.length a_cs,.int .i64 n.old,.slice a_r n.reqs.length a_cr] 30 (0,0))):=by rw [hW9];exact blk_setO (unhide HN_8) 4 _
    have HM_9:=hide (hk9.obj (unhide HM_8) (fun hx=>by simp at hx))
    have HR_9:=hide (hk9.obj (unhide HR_8) (fun hx=>by simp at hx))
    have HS_9:=hide (hk9.obj (unhide HS_8) (fun hx=>by simp at hx;omega))
    have HA_9:=hide (hk9.obj (unhide HA_8) (fun hx=>by simp at hx;omega))
    have HIW9:=hide ((unhide HIW8).keeps hk9 (fun x hx hm=>by have h1:=(of_fp hx).1;simp at hm;omega))
    have HNW9:=hide ((unhide HNW8).kc (k:=9) (KC.keeps hk9 (fun x hx=>by have:x=w.heap.size:=(by simpa using hx);rw [this];exact unhide HCN _ (Nat.le_refl _) hnb)) (by omega))
    have HBB9:=hide ((unhide HBB8).trans (hk9.below (B:=B) (fun x hx=>by simp at hx;omega) (by omega)))
    have HKA9:=hide (Apart.keeps (c:=c) (unhide HKA8) (by omega) hk9 (fun x hx=>by have:x=w.heap.size:=(by simpa using hx);omega))
    have HP9:=hide ((unhide HRW).keeps hk9 (fun x hx=>by simp at hx;omega))
    have hz9:W8.heap.size≤W9.heap.size:=hk9.size
    clear hW9 hk9 HRW HN_8 HM_8 HR_8 HS_8 HA_8 HIW8 HNW8 HBB8 HKA8 c0 c1 c2 c3 c4 c5 c6 c7 c8 cf hnl
    obtain⟨m0,m1,m2,m3,m4,m5,m6⟩:=sevenC (unhide HM_9)
    have hml:=obj_lt (unhide HM_9)
    obtain⟨pos,hpos⟩:∃pos,((idsS s0 mL).takeWhile (fun y=>decide (y < mI))).length=pos:=⟨_,rfl⟩
    have HIN:=hide (show insI (idsS s0 mL) mI=(idsS s0 mL).take pos++([mI]++(idsS s0 mL).drop pos) by rw [←hpos];exact insI_pos _ _)
    have hpl:pos≤(idsS s0 mL).length:=by rw [←hpos];exact tw_le _ _
    have HPO:=hide hpos
    clear hpos
    go_upto_block 4 with fail
    go_cut [14] from 15 (fun j wx=>j= .int .i64 (pos:Nat)∧Ge W9 wx)
    case first=>
     go_wp2_with fail
     go_loopw [14] (fun j wr=>∃x q:Nat,x≤(idsS s0 mL).length∧j= .int .i64 x∧(∀y (hy:y < (idsS s0 mL).length),y < x→(idsS s0 mL)[y] < mI)∧wr=W9.drewN q) (fun j _=>(idsS s0 mL).length - (intOf j).toNat)
     case atStart=>exact⟨0,0,Nat.zero_le _,rfl,fun y hy h=>(by omega),rfl⟩
     case round=>
      obtain⟨x,q,hx,rfl,hlo,rfl⟩:=hrel
      have HLO:=hide hlo
      clear hlo
      by_cases hlt:x < (idsS s0 mL).length
      ·obtain⟨_,hgb,hcell⟩:=(unhide HIW9) x hlt
       have y0:=(hcell 0 (by omega)).1
       rw [Nat.mul_one,Nat.add_zero] at y0
       simp only[List.getElem?_cons_zero] at y0
       clear hcell
       have HUP:=hide (fun(h:¬(idsS s0 mL)[x] < mI)=>tw_len (l:=idsS s0 mL) (x:=mI) hx (unhide HLO) (fun _=>h))
       have HMORE:=hide (fun(h:(idsS s0 mL)[x] < mI)=>show∀y (hy:y < (idsS s0 mL).length),y < x+1→(idsS s0 mL)[y] < mI from fun y hy h2=>by
        by_cases e:y=x
        ·subst e;exact h
        ·exact unhide HLO y hy (by omega))
       generalize (idsS s0 mL)[x]=rn at *
       by_cases hcmp:rn < mI
       ·go_wp2_with fail
        go_quiet (fail)
        go_wp2_with fail
        go_roundw
        case rel=>exact⟨x+1,_,by omega,by go_num,unhide HMORE hcmp,rfl⟩
        case measure=>simp[intOf];omega
       ·have hcmp':decide (rn < mI)=false:=decide_eq_false hcmp
        have HJ:=hide (unhide HUP hcmp)
        go_wp2_with fail
        go_quiet (fail)
        go_wp2_with fail
        go_meet
        case rel=>exact⟨by rw [←unhide HPO,unhide HJ],⟨rfl,rfl,rfl,Nat.le_refl _,fun _ _=>rfl⟩⟩
      ·have hje:x=(idsS s0 mL).length:=by omega
       subst hje
       have HJ:=hide (tw_len (l:=idsS s0 mL) (x:=mI) (Nat.le_refl _) (unhide HLO) (fun h=>absurd h (Nat.lt_irrefl _)))
       have hcmp':decide (((idsS s0 mL).length:Int) < ((idsS s0 mL).length:Int))=false:=by simp
       go_wp2_with fail
       go_quiet (fail)
       go_wp2_with fail
       go_meet
       case rel=>exact⟨by rw [←unhide HPO,unhide HJ],⟨rfl,rfl,rfl,Nat.le_refl _,fun _ _=>rfl⟩⟩
    case rest=>
     obtain⟨rfl,hge⟩:=hcut
     clear m0 m1 m2 m3 m4 m5 m6 hml
     go_upto_region 25 with fail
     refine wp_at (fun W10 hW10=>?_)
     subst hW10
     have HN_10:=hide (obj_step (unhide HN_9) hge)
     have HM_10:=hide (obj_step (unhide HM_9) hge)
     have HR_10:=hide (obj_step (unhide HR_9) hge)
     have HS_10:=hide (obj_step (unhide HS_9) hge)
     have HA_10:=hide (obj_step (unhide HA_9) hge)
     have HIW10:=hide ((unhide HIW9).below hge)
     have HNW10:=hide ((unhide HNW9).kc (k:=9) (KC.of_below hge) (by omega))
     have HBB10:=hide ((unhide HBB9).trans (hge.mono (by omega)))
     have HKA10:=hide ((unhide HKA9).step (by omega) hge)
     have HP10:=hide ((unhide HP9).below hge)
     have hz10:W9.heap.size≤W10.heap.size:=hge.size
     clear hge HN_9 HM_9 HR_9 HS_9 HA_9 HIW9 HNW9 HBB9 HKA9 HP9
     have hsl10:=obj_lt (unhide HS_10)
     have hgil:∀x∈fp gi (idsS s0 mL),x < W10.heap.size:=W_lt (unhide HIW10)
     go_cut [14] from 15 (fun _ wx=>∃g2 cq2,W10.heap.size≤g2∧wx.ownsRow W10.heap.size 3 1 (.slice (some ⟨g2,0,none⟩) ((idsS s0 mL).length+1) cq2) ((idsS s0 mL).length+1) (GR.flat encNum (insI (idsS s0 mL) mI))∧wx.heap[sb]?=some (.cells #[.int .i64 mF,.int .i64 (lowS s0 mL),.slice (some ⟨g2,0,none⟩) ((idsS s0 mL).length+1) cq2] 71 (0,0))∧KeepsL [sb] W10 wx)
     case first=>
      obtain⟨m0,m1,m2,m3,m4,m5,m6⟩:=sevenC (unhide HM_10)
      have hml:=obj_lt (unhide HM_10)
      have hwb:W10.heap.size≤W10.heap.size:=Nat.le_refl _
      have y3:=cell_und hml m3
      clear m0 m1 m2 m3 m4 m5 m6
      have hpc:pos≤ccp:=by omega
      have HTL:=hide (show IntsAt W10 (some ⟨gi,0,none⟩) ((idsS s0 mL).take pos) from GR.At.take (unhide HIW10).at pos)
      obtain⟨AD,hAD,hDR⟩:∃AD,(if ccp=pos then some (⟨gi,0,none⟩:Addr) else some ⟨gi,pos,none⟩)=AD∧IntsAt W10 AD ((idsS s0 mL).drop pos):=by
       by_cases hcz:ccp=pos
       ·refine⟨_,rfl,?_⟩
        rw [show(idsS s0 mL).drop pos=[] by apply List.drop_eq_nil_of_le;omega]
        exact GR.at_nil _ _
       ·refine⟨_,rfl,?_⟩
        rw [if_neg hcz]
        have h:=GR.At.drop (unhide HIW10).at pos
        rw [Nat.mul_one] at h
        exact h
      have HDR:=hide hDR
      clear hDR
      refine wp_region_mixB 14 W10.heap.size (by kernel_rfl) ?_
      show wpMixB _ _ _ _ _ _ 15 (Array.replicate 15 false) _ _
      refine wpMixB_take 1 20 hwb rfl (by kernel_rfl) (by kernel_rfl) (by kernel_rfl) (by kernel_rfl) (by kernel_rfl) (fun _ _ _ _ h=>h) (fun K hK=>?_)
      go_simp
      first
       |(refine hK _ ?_;clear hK K)
       |(apply Exists.intro
         refine⟨fun _=>?_,hK _ ?_⟩
         (first|rfl|(trace_state;fail))
         clear hK K)
      refine wpMixB_take 2 20 hwb rfl (by kernel_rfl) (by kernel_rfl) (by kernel_rfl) (by kernel_rfl) (by kernel_rfl) (fun _ _ _ _ h=>h) (fun K hK=>?_)
      go_simp
      first
       |(refine hK _ ?_;clear hK K)
       |(apply Exists.intro
         refine⟨fun _=>?_,hK _ ?_⟩
         (first|rfl|(trace_state;fail))
         clear hK K)
      refine wpMixB_take 3 20 hwb rfl (by kernel_rfl) (by kernel_rfl) (by kernel_rfl) (by kernel_rfl) (by kernel_rfl) (fun _ _ _ _ h=>h) (fun K hK=>?_)
      go_simp
      first
       |(refine hK _ ?_;clear hK K)
       |(apply Exists.intro
         refine⟨fun _=>?_,hK _ ?_⟩
         (first|rfl|(trace_state;fail))
         clear hK K)
      refine wpMixB_take 5 20 hwb rfl (by kernel_rfl) (by kernel_rfl) (by kernel_rfl) (by kernel_rfl) (by kernel_rfl) (fun _ _ _ _ h=>h) (fun K hK=>?_)
      go_simp
      first
       |(refine hK _ ?_;clear hK K)
       |(apply Exists.intro
         refine⟨fun _=>?_,hK _ ?_⟩
         (first|rfl|(trace_state;fail))
         clear hK K)
      refine wpMixB_take 6 20 hwb rfl (by kernel_rfl) (by kernel_rfl) (by kernel_rfl) (by kernel_rfl) (by kernel_rfl) (fun _ _ _ _ h=>h) (fun K hK=>?_)
      go_simp
      first
       |(refine hK _ ?_;clear hK K)
       |(apply Exists.intro
         refine⟨fun _=>?_,hK _ ?_⟩
         (first|rfl|(trace_state;fail))
         clear hK K)
      refine wpMixB_take 9 20 hwb rfl (by kernel_rfl) (by kernel_rfl) (by kernel_rfl) (by kernel_rfl) (by kernel_rfl) (fun _ _ _ _ h=>h) (fun K hK=>?_)
      go_simp
      first
       |(refine hK _ ?_;clear hK K)
       |(apply Exists.intro
         refine⟨fun _=>?_,hK _ ?_⟩
         (first|rfl|(trace_state;fail))
         clear hK K)
      refine wpMixB_take 10 20 hwb rfl (by kernel_rfl) (by kernel_rfl) (by kernel_rfl) (by kernel_rfl) (by kernel_rfl) (fun _ _ _ _ h=>h) (fun K hK=>?_)
      go_simp
      first
       |(refine hK _ ?_;clear hK K)
       |(apply Exists.intro
         refine⟨fun _=>?_,hK _ ?_⟩
         (first|rfl|(trace_state;fail))
         clear hK K)
      refine wpMixB_take 11 20 hwb rfl (by kernel_rfl) (by kernel_rfl) (by kernel_rfl) (by kernel_rfl) (by kernel_rfl) (fun _ _ _ _ h=>h) (fun K hK=>?_)
      go_simp
      first
       |(refine hK _ ?_;clear hK K)
       |(apply Exists.intro
         refine⟨fun _=>?_,hK _ ?_⟩
         (first|rfl|(trace_state;fail))
         clear hK K)
      clear y3
      have hlt1:((idsS s0 mL).take pos).length=pos:=by rw [List.length_take];omega
      have hld1:((idsS s0 mL).drop pos).length=(idsS s0 mL).length - pos:=by rw [List.length_drop]
      have hL1:((idsS s0 mL).take pos++[mI]).length=pos+1:=by rw [List.length_append,hlt1];rfl
      have hL2:((idsS s0 mL).take pos++[mI]++(idsS s0 mL).drop pos).length=pos+1+((idsS s0 mL).length - pos):=by rw [List.length_append,hL1,hld1]
      have HG0:=hide (Below.refl W10.heap.size W10)
      refine wpMixB_two 0 7 rfl rfl (by kernel_rfl) (by rfl) (by rfl) (by decide) (by decide) (fun x1 hx1=>?_) (fun x1 hx1=>?_)
      ·go_simp
       have HGx1:=hide ((unhide HG0).trans (hx1.mono (unhide HG0).size))
       have hsx1:W10.heap.size≤x1.heap.size:=(unhide HGx1).size
       clear hx1
       refine⟨(below_one x1 _).mono hsx1,?_⟩
       have hby1:=below_one x1 (.cells #[] 3)
       have HVy1:=hide (show(x1.alloc (.cells #[] 3)).ownsRow W10.heap.size 3 1 (.slice (some ⟨x1.heap.size,0,none⟩) 0 0) 0 (GR.flat encNum []) from World.ownsRow_lit (base:=W10.heap.size) (e:=3) (size:=1) x1 #[] 0 hsx1 (by unfold maxLen;omega) (by simp))
       have HGy1:=hide ((unhide HGx1).trans (hby1.mono (unhide HGx1).size))
       clear hby1
       generalize hyy1:x1.alloc (.cells #[] 3)=y1 at *
       clear hyy1
       refine wpMixB_two 4 7 rfl rfl (by kernel_rfl) (by rfl) (by rfl) (by decide) (by decide) (fun x2 hx2=>?_) (fun x2 hx2=>?_)
       ·have HGx2:=hide ((unhide HGy1).trans (hx2.mono (unhide HGy1).size))
        have hsx2:W10.heap.size≤x2.heap.size:=(unhide HGx2).size
        have HVx2:=hide (GR.own_below (unhide HVy1) hx2)
        clear hx2
        obtain⟨v2,y2,hry2,hoy2,hgy2,hwy2⟩:=run_append_row encNum_length (by omega) x2 W10.heap.size 24 24 3 i0 (.int .i64 0) 8 Tryz.underlying24 hi0 hz0 hz1' hz2 rfl (.slice (some ⟨x1.heap.size,0,none⟩) 0 0) 0 (GR.flat encNum ([])) (unhide HVx2) (some ⟨gi,0,none⟩) ((idsS s0 mL).take pos) ccp (GR.At.below (unhide HTL) (unhide HGx2)) (flatNum_one _) (by unfold maxLen;omega) (by omega) hsx2
        rw [hlt1] at hry2 hoy2
        refine Lib.wp_append_run x2 (.tmp 127) (.tmp 130) 24 24 rfl _ _ (by simp[Act.eval]) (by simp[Act.eval]) v2 y2 hry2 ?_
        refine⟨(Below.refl _ _).grown hgy2 hsx2 (fun b hb=>((unhide HVx2).lt b hb).1),?_⟩
        go_simp
        have HGy2:=hide ((unhide HGx2).grown hgy2 hsx2 (fun b hb=>((unhide HVx2).lt b hb).1))
        have HVy2:Hid (y2.ownsRow W10.heap.size 3 1 v2 (pos) (GR.flat encNum ((idsS s0 mL).take pos))):=hide (by simpa [GR.flat_nil] using hoy2)
        obtain⟨avR,cvR,hsly2,_⟩:=GR.own_at (enc:=encNum) (sz:=1) (l:=(idsS s0 mL).take pos) encNum_length (by rw [hlt1];exact unhide HVy2)
        rw [hlt1] at hsly2
        subst hsly2
        clear hry2 hoy2 hgy2 hwy2
        refine wpMixB_one 7 rfl (by kernel_rfl) (by rfl) (by decide) (fun x3 hx3=>?_)
        go_simp
        have HGx3:=hide ((unhide HGy2).trans (hx3.mono (unhide HGy2).size))
        have hsx3:W10.heap.size≤x3.heap.size:=(unhide HGx3).size
        have HVx3:=hide (GR.own_below (unhide HVy2) hx3)
        clear hx3
        refine⟨(below_one x3 _).mono hsx3,?_⟩
        have hby3:=below_one x3 (.cells #[.int .i64 mI] 3)
        have HQy3:=hide (heap_alloc_new x3 (.cells #[.int .i64 mI] 3))
        have HVy3:=hide (GR.own_below (unhide HVx3) hby3)
        have HEy3:=hide (show∀b,((.slice avR (pos) cvR:Value)).ownBlock=some b→b≠x3.heap.size from fun b hb=>by have:=((unhide HVx3).lt b hb).2;omega)
        have HGy3:=hide ((unhide HGx3).trans (hby3.mono (unhide HGx3).size))
        clear hby3
        generalize hyy3:x3.alloc (.cells #[.int .i64 mI] 3)=y3 at *
        clear hyy3
        generalize x3.heap.size=rb at *
        refine wpMixB_one 8 rfl (by kernel_rfl) (by rfl) (by decide) (fun x4 hx4=>?_)
        have HGx4:=hide ((unhide HGy3).trans (hx4.mono (unhide HGy3).size))
        have hsx4:W10.heap.size≤x4.heap.size:=(unhide HGx4).size
        have HVx4:=hide (GR.own_below (unhide HVy3) hx4)
        have HQx4:=hide (obj_step (unhide HQy3) hx4)
        clear hx4
        obtain⟨v4,y4,hry4,hoy4,hgy4,hwy4⟩:=run_append_where x4 W10.heap.size 24 24 3 i0 (.int .i64 0) 1 8 Tryz.underlying24 hi0 hz0 hz1' hz2 rfl (by decide) (.slice avR (pos) cvR) (pos) (GR.flat encNum ((idsS s0 mL).take pos)) (unhide HVx4) ⟨rb,0,none⟩ 1 1 (encNum mI) rfl (World.news_of_block (unhide HQx4)) (by intro u hu;simp at hu;subst hu;rfl) (by unfold maxLen;omega) (by omega) hsx4
        refine Lib.wp_append_run x4 (.tmp 131) (.tmp 134) 24 24 rfl _ _ (by simp[Act.eval]) (by simp[Act.eval]) v4 y4 hry4 ?_
        refine⟨(Below.refl _ _).grown hgy4 hsx4 (fun b hb=>((unhide HVx4).lt b hb).1),?_⟩
        go_simp
        have HGy4:=hide ((unhide HGx4).grown hgy4 hsx4 (fun b hb=>((unhide HVx4).lt b hb).1))
        have HVy4:Hid (y4.ownsRow W10.heap.size 3 1 v4 (pos+1) (GR.flat encNum ((idsS s0 mL).take pos++[mI]))):=hide (by rw [GR.flat_append,GR.flat_one];exact hoy4)
        have HQy4:=hide (show y4.heap[rb]?=some (.cells #[.int .i64 mI] 3 (0,0)) from by rw [hgy4.block _ (obj_lt (unhide HQx4)) (fun hm=>unhide HEy3 _ hm.symm rfl)];exact unhide HQx4)
        have HEy4:=hide (show∀b,(v4).ownBlock=some b→b≠rb from fun b hb=>(hwy4 b hb).elim (fun h=>unhide HEy3 b h) (fun h=>by have:=obj_lt (unhide HQx4);omega))
        obtain⟨avO,cvO,hsly4,_⟩:=GR.own_at (enc:=encNum) (sz:=1) (l:=(idsS s0 mL).take pos++[mI]) encNum_length (by rw [hL1];exact unhide HVy4)
        rw [hL1] at hsly4
        subst hsly4
        clear hry4 hoy4 hgy4 hwy4
        refine wpMixB_one 12 rfl (by kernel_rfl) (by rfl) (by decide) (fun x5 hx5=>?_)
        have HGx5:=hide ((unhide HGy4).trans (hx5.mono (unhide HGy4).size))
        have hsx5:W10.heap.size≤x5.heap.size:=(unhide HGx5).size
        have HVx5:=hide (GR.own_below (unhide HVy4) hx5)
        have HQx5:=hide (obj_step (unhide HQy4) hx5)
        clear hx5
        obtain⟨v5,y5,hry5,hoy5,hgy5,hwy5⟩:=run_append_row encNum_length (by omega) x5 W10.heap.size 24 24 3 i0 (.int .i64 0) 8 Tryz.underlying24 hi0 hz0 hz1' hz2 rfl (.slice avO (pos+1) cvO) (pos+1) (GR.flat encNum ((idsS s0 mL).take pos++[mI])) (unhide HVx5) AD ((idsS s0 mL).drop pos) (ccp - pos) (GR.At.below (unhide HDR) (unhide HGx5)) (flatNum_one _) (by unfold maxLen;omega) (by omega) hsx5
        rw [hld1] at hry5 hoy5
        refine Lib.wp_append_run x5 (.tmp 135) (.tmp 138) 24 24 rfl _ _ (by simp[Act.eval]) (by simp[Act.eval]) v5 y5 hry5 ?_
        refine⟨(Below.refl _ _).grown hgy5 hsx5 (fun b hb=>((unhide HVx5).lt b hb).1),?_⟩
        go_simp
        have HGy5:=hide ((unhide HGx5).grown hgy5 hsx5 (fun b hb=>((unhide HVx5).lt b hb).1))
        have HVy5:Hid (y5.ownsRow W10.heap.size 3 1 v5 (pos+1+((idsS s0 mL).length - pos)) (GR.flat encNum ((idsS s0 mL).take pos++[mI]++(idsS s0 mL).drop pos))):=hide (by rw [GR.flat_append];exact hoy5)
        have HQy5:=hide (show y5.heap[rb]?=some (.cells #[.int .i64 mI] 3 (0,0)) from by rw [hgy5.block _ (obj_lt (unhide HQx5)) (fun hm=>unhide HEy4 _ hm.symm rfl)];exact unhide HQx5)
        have HEy5:=hide (show∀b,(v5).ownBlock=some b→b≠rb from fun b hb=>(hwy5 b hb).elim (fun h=>unhide HEy4 b h) (fun h=>by have:=obj_lt (unhide HQx5);omega))
        obtain⟨avT,cvT,hsly5,_⟩:=GR.own_at (enc:=encNum) (sz:=1) (l:=(idsS s0 mL).take pos++[mI]++(idsS s0 mL).drop pos) encNum_length (by rw [hL2];exact unhide HVy5)
        rw [hL2] at hsly5
        subst hsly5
        clear hry5 hoy5 hgy5 hwy5
        have hwb2:W10.heap.size≤y5.heap.size:=(unhide HGy5).size
        refine wpMixB_take 13 20 hwb2 rfl (by kernel_rfl) (by kernel_rfl) (by kernel_rfl) (by kernel_rfl) (by kernel_rfl) (fun _ _ _ _ h=>h) (fun K hK=>?_)
        go_simp
        first
         |(refine hK _ ?_;clear hK K)
         |(apply Exists.intro
           refine⟨fun _=>?_,hK _ ?_⟩
           (first|rfl|(trace_state;fail))
           clear hK K)
        refine wpMixB_leave (by kernel_rfl) (fun z hz=>?_)
        have HGz:=hide ((unhide HGy5).trans (hz.mono (unhide HGy5).size))
        have HVz:=hide (GR.own_below (unhide HVy5) hz)
        have hsz:W10.heap.size≤z.heap.size:=(unhide HGz).size
        clear hz
        have HSz:=hide (show z.heap[sb]?=some (.cells #[.int .i64 mF,.int .i64 (lowS s0 mL),.slice (some ⟨gi,0,none⟩) (idsS s0 mL).length ccp] 71 (0,0)) by rw [(unhide HGz).block _ hsl10];exact unhide HS_10)
        obtain⟨_,_,kc⟩:=threeC (unhide HSz)
        have kf:=obj_free (unhide HSz) 2
        refine wpAny_one 14 rfl (by kernel_rfl) (by rfl) ?_
        go_simp
        refine wpAny_done (by kernel_rfl) ?_
        go_simp
        go_wp2_with fail
        go_meet
        case rel=>
         rcases(unhide HVz).2 with⟨_,hn⟩|⟨g,cap,cur,hv,hbg,_⟩
         ·omega
         ·simp only[Value.slice.injEq] at hv
          obtain⟨rfl,_,_⟩:=hv
          have h2:=unhide HVz
          rw [show pos+1+((idsS s0 mL).length - pos)=(idsS s0 mL).length+1 by omega] at h2
          refine⟨g,cvT,hbg,?_,?_,(KeepsL.of_below (unhide HGz)).trans (KeepsL.set _)⟩
          ·rw [unhide HIN]
           rw [List.append_assoc] at h2
           refine own_keep h2 (KeepsL.set _) (fun x hx hm=>?_)
           simp[Value.ownBlock] at hx
           simp at hm
           omega
          ·have h:=blk_setO (unhide HSz) 2 (.slice (some ⟨g,0,none⟩) (pos+1+((idsS s0 mL).length - pos)) cvT)
           rw [show pos+1+((idsS s0 mL).length - pos)=(idsS s0 mL).length+1 by omega] at h ⊢
           exact h
       ·go_simp
        have HGx2:=hide ((unhide HGy1).trans (hx2.mono (unhide HGy1).size))
        have hsx2:W10.heap.size≤x2.heap.size:=(unhide HGx2).size
        have HVx2:=hide (GR.own_below (unhide HVy1) hx2)
        clear hx2
        refine⟨(below_one x2 _).mono hsx2,?_⟩
        have hby2:=below_one x2 (.cells #[.int .i64 mI] 3)
        have HQy2:=hide (heap_alloc_new x2 (.cells #[.int .i64 mI] 3))
        have HVy2:=hide (GR.own_below (unhide HVx2) hby2)
        have HEy2:=hide (show∀b,((.slice (some ⟨x1.heap.size,0,none⟩) 0 0:Value)).ownBlock=some b→b≠x2.heap.size from fun b hb=>by have:=((unhide HVx2).lt b hb).2;omega)
        have HGy2:=hide ((unhide HGx2).trans (hby2.mono (unhide HGx2).size))
        clear hby2
        generalize hyy2:x2.alloc (.cells #[.int .i64 mI] 3)=y2 at *
        clear hyy2
        refine wpMixB_one 4 rfl (by kernel_rfl) (by rfl) (by decide) (fun x3 hx3=>?_)
        have HGx3:=hide ((unhide HGy2).trans (hx3.mono (unhide HGy2).size))
        have hsx3:W10.heap.size≤x3.heap.size:=(unhide HGx3).size
        have HVx3:=hide (GR.own_below (unhide HVy2) hx3)
        have HQx3:=hide (obj_step (unhide HQy2) hx3)
        clear hx3
        obtain⟨v3,y3,hry3,hoy3,hgy3,hwy3⟩:=run_append_row encNum_length (by omega) x3 W10.heap.size 24 24 3 i0 (.int .i64 0) 8 Tryz.underlying24 hi0 hz0 hz1' hz2 rfl (.slice (some ⟨x1.heap.size,0,none⟩) 0 0) 0 (GR.flat encNum ([])) (unhide HVx3) (some ⟨gi,0,none⟩) ((idsS s0 mL).take pos) ccp (GR.At.below (unhide HTL) (unhide HGx3)) (flatNum_one _) (by unfold maxLen;omega) (by omega) hsx3
        rw [hlt1] at hry3 hoy3
        refine Lib.wp_append_run x3 (.tmp 127) (.tmp 130) 24 24 rfl _ _ (by simp[Act.eval]) (by simp[Act.eval]) v3 y3 hry3 ?_
        refine⟨(Below.refl _ _).grown hgy3 hsx3 (fun b hb=>((unhide HVx3).lt b hb).1),?_⟩
        go_simp
        have HGy3:=hide ((unhide HGx3).grown hgy3 hsx3 (fun b hb=>((unhide HVx3).lt b hb).1))
        have HVy3:Hid (y3.ownsRow W10.heap.size 3 1 v3 (pos) (GR.flat encNum ((idsS s0 mL).take pos))):=hide (by simpa [GR.flat_nil] using hoy3)
        have HQy3:=hide (show y3.heap[x2.heap.size]?=some (.cells #[.int .i64 mI] 3 (0,0)) from by rw [hgy3.block _ (obj_lt (unhide HQx3)) (fun hm=>unhide HEy2 _ hm.symm rfl)];exact unhide HQx3)
        have HEy3:=hide (show∀b,(v3).ownBlock=some b→b≠x2.heap.size from fun b hb=>(hwy3 b hb).elim (fun h=>unhide HEy2 b h) (fun h=>by have:=obj_lt (unhide HQx3);omega))
        obtain⟨avR,cvR,hsly3,_⟩:=GR.own_at (enc:=encNum) (sz:=1) (l:=(idsS s0 mL).take pos) encNum_length (by rw [hlt1];exact unhide HVy3)
        rw [hlt1] at hsly3
        subst hsly3
        clear hry3 hoy3 hgy3 hwy3
        generalize x2.heap.size=rb at *
        refine wpMixB_one 8 rfl (by kernel_rfl) (by rfl) (by decide) (fun x4 hx4=>?_)
        have HGx4:=hide ((unhide HGy3).trans (hx4.mono (unhide HGy3).size))
        have hsx4:W10.heap.size≤x4.heap.size:=(unhide HGx4).size
        have HVx4:=hide (GR.own_below (unhide HVy3) hx4)
        have HQx4:=hide (obj_step (unhide HQy3) hx4)
        clear hx4
        obtain⟨v4,y4,hry4,hoy4,hgy4,hwy4⟩:=run_append_where x4 W10.heap.size 24 24 3 i0 (.int .i64 0) 1 8 Tryz.underlying24 hi0 hz0 hz1' hz2 rfl (by decide) (.slice avR (pos) cvR) (pos) (GR.flat encNum ((idsS s0 mL).take pos)) (unhide HVx4) ⟨rb,0,none⟩ 1 1 (encNum mI) rfl (World.news_of_block (unhide HQx4)) (by intro u hu;simp at hu;subst hu;rfl) (by unfold maxLen;omega) (by omega) hsx4
        refine Lib.wp_append_run x4 (.tmp 131) (.tmp 134) 24 24 rfl _ _ (by simp[Act.eval]) (by simp[Act.eval]) v4 y4 hry4 ?_
        refine⟨(Below.refl _ _).grown hgy4 hsx4 (fun b hb=>((unhide HVx4).lt b hb).1),?_⟩
        go_simp
        have HGy4:=hide ((unhide HGx4).grown hgy4 hsx4 (fun b hb=>((unhide HVx4).lt b hb).1))
        have HVy4:Hid (y4.ownsRow W10.heap.size 3 1 v4 (pos+1) (GR.flat encNum ((idsS s0 mL).take pos++[mI]))):=hide (by rw [GR.flat_append,GR.flat_one];exact hoy4)
        have HQy4:=hide (show y4.heap[rb]?=some (.cells #[.int .i64 mI] 3 (0,0)) from by rw [hgy4.block _ (obj_lt (unhide HQx4)) (fun hm=>unhide HEy3 _ hm.symm rfl)];exact unhide HQx4)
        have HEy4:=hide (show∀b,(v4).ownBlock=some b→b≠rb from fun b hb=>(hwy4 b hb).elim (fun h=>unhide HEy3 b h) (fun h=>by have:=obj_lt (unhide HQx4);omega))
        obtain⟨avO,cvO,hsly4,_⟩:=GR.own_at (enc:=encNum) (sz:=1) (l:=(idsS s0 mL).take pos++[mI]) encNum_length (by rw [hL1];exact unhide HVy4)
        rw [hL1] at hsly4
        subst hsly4
        clear hry4 hoy4 hgy4 hwy4
        refine wpMixB_one 12 rfl (by kernel_rfl) (by rfl) (by decide) (fun x5 hx5=>?_)
        have HGx5:=hide ((unhide HGy4).trans (hx5.mono (unhide HGy4).size))
        have hsx5:W10.heap.size≤x5.heap.size:=(unhide HGx5).size
        have HVx5:=hide (GR.own_below (unhide HVy4) hx5)
        have HQx5:=hide (obj_step (unhide HQy4) hx5)
        clear hx5
        obtain⟨v5,y5,hry5,hoy5,hgy5,hwy5⟩:=run_append_row encNum_length (by omega) x5 W10.heap.size 24 24 3 i0 (.int .i64 0) 8 Tryz.underlying24 hi0 hz0 hz1' hz2 rfl (.slice avO (pos+1) cvO) (pos+1) (GR.flat encNum ((idsS s0 mL).take pos++[mI])) (unhide HVx5) AD ((idsS s0 mL).drop pos) (ccp - pos) (GR.At.below (unhide HDR) (unhide HGx5)) (flatNum_one _) (by unfold maxLen;omega) (by omega) hsx5
        rw [hld1] at hry5 hoy5
        refine Lib.wp_append_run x5 (.tmp 135) (.tmp 138) 24 24 rfl _ _ (by simp[Act.eval]) (by simp[Act.eval]) v5 y5 hry5 ?_
        refine⟨(Below.refl _ _).grown hgy5 hsx5 (fun b hb=>((unhide HVx5).lt b hb).1),?_⟩
        go_simp
        have HGy5:=hide ((unhide HGx5).grown hgy5 hsx5 (fun b hb=>((unhide HVx5).lt b hb).1))
        have HVy5:Hid (y5.ownsRow W10.heap.size 3 1 v5 (pos+1+((idsS s0 mL).length - pos)) (GR.flat encNum ((idsS s0 mL).take pos++[mI]++(idsS s0 mL).drop pos))):=hide (by rw [GR.flat_append];exact hoy5)
        have HQy5:=hide (show y5.heap[rb]?=some (.cells #[.int .i64 mI] 3 (0,0)) from by rw [hgy5.block _ (obj_lt (unhide HQx5)) (fun hm=>unhide HEy4 _ hm.symm rfl)];exact unhide HQx5)
        have HEy5:=hide (show∀b,(v5).ownBlock=some b→b≠rb from fun b hb=>(hwy5 b hb).elim (fun h=>unhide HEy4 b h) (fun h=>by have:=obj_lt (unhide HQx5);omega))
        obtain⟨avT,cvT,hsly5,_⟩:=GR.own_at (enc:=encNum) (sz:=1) (l:=(idsS s0 mL).take pos++[mI]++(idsS s0 mL).drop pos) encNum_length (by rw [hL2];exact unhide HVy5)
        rw [hL2] at hsly5
        subst hsly5
        clear hry5 hoy5 hgy5 hwy5
        have hwb2:W10.heap.size≤y5.heap.size:=(unhide HGy5).size
        refine wpMixB_take 13 20 hwb2 rfl (by kernel_rfl) (by kernel_rfl) (by kernel_rfl) (by kernel_rfl) (by kernel_rfl) (fun _ _ _ _ h=>h) (fun K hK=>?_)
        go_simp
        first
         |(refine hK _ ?_;clear hK K)
         |(apply Exists.intro
           refine⟨fun _=>?_,hK _ ?_⟩
           (first|rfl|(trace_state;fail))
           clear hK K)
        refine wpMixB_leave (by kernel_rfl) (fun z hz=>?_)
        have HGz:=hide ((unhide HGy5).trans (hz.mono (unhide HGy5).size))
        have HVz:=hide (GR.own_below (unhide HVy5) hz)
        have hsz:W10.heap.size≤z.heap.size:=(unhide HGz).size
        clear hz
        have HSz:=hide (show z.heap[sb]?=some (.cells #[.int .i64 mF,.int .i64 (lowS s0 mL),.slice (some ⟨gi,0,none⟩) (idsS s0 mL).length ccp] 71 (0,0)) by rw [(unhide HGz).block _ hsl10];exact unhide HS_10)
        obtain⟨_,_,kc⟩:=threeC (unhide HSz)
        have kf:=obj_free (unhide HSz) 2
        refine wpAny_one 14 rfl (by kernel_rfl) (by rfl) ?_
        go_simp
        refine wpAny_done (by kernel_rfl) ?_
        go_simp
        go_wp2_with fail
        go_meet
        case rel=>
         rcases(unhide HVz).2 with⟨_,hn⟩|⟨g,cap,cur,hv,hbg,_⟩
         ·omega
         ·simp only[Value.slice.injEq] at hv
          obtain⟨rfl,_,_⟩:=hv
          have h2:=unhide HVz
          rw [show pos+1+((idsS s0 mL).length - pos)=(idsS s0 mL).length+1 by omega] at h2
          refine⟨g,cvT,hbg,?_,?_,(KeepsL.of_below (unhide HGz)).trans (KeepsL.set _)⟩
          ·rw [unhide HIN]
           rw [List.append_assoc] at h2
           refine own_keep h2 (KeepsL.set _) (fun x hx hm=>?_)
           simp[Value.ownBlock] at hx
           simp at hm
           omega
          ·have h:=blk_setO (unhide HSz) 2 (.slice (some ⟨g,0,none⟩) (pos+1+((idsS s0 mL).length - pos)) cvT)
           rw [show pos+1+((idsS s0 mL).length - pos)=(idsS s0 mL).length+1 by omega] at h ⊢
           exact h
      ·go_simp
       have HGx1:=hide ((unhide HG0).trans (hx1.mono (unhide HG0).size))
       have hsx1:W10.heap.size≤x1.heap.size:=(unhide HGx1).size
       clear hx1
       refine⟨(below_one x1 _).mono hsx1,?_⟩
       have hby1:=below_one x1 (.cells #[.int .i64 mI] 3)
       have HQy1:=hide (heap_alloc_new x1 (.cells #[.int .i64 mI] 3))
       have HGy1:=hide ((unhide HGx1).trans (hby1.mono (unhide HGx1).size))
       clear hby1
       generalize hyy1:x1.alloc (.cells #[.int .i64 mI] 3)=y1 at *
       clear hyy1
       refine wpMixB_one 0 rfl (by kernel_rfl) (by rfl) (by decide) (fun x2 hx2=>?_)
       go_simp
       have HGx2:=hide ((unhide HGy1).trans (hx2.mono (unhide HGy1).size))
       have hsx2:W10.heap.size≤x2.heap.size:=(unhide HGx2).size
       have HQx2:=hide (obj_step (unhide HQy1) hx2)
       clear hx2
       refine⟨(below_one x2 _).mono hsx2,?_⟩
       have hby2:=below_one x2 (.cells #[] 3)
       have HVy2:=hide (show(x2.alloc (.cells #[] 3)).ownsRow W10.heap.size 3 1 (.slice (some ⟨x2.heap.size,0,none⟩) 0 0) 0 (GR.flat encNum []) from World.ownsRow_lit (base:=W10.heap.size) (e:=3) (size:=1) x2 #[] 0 hsx2 (by unfold maxLen;omega) (by simp))
       have HQy2:=hide (obj_step (unhide HQx2) hby2)
       have hrby2:=obj_lt (unhide HQx2)
       have HEy2:=hide (show∀b,(Value.slice (some ⟨x2.heap.size,0,none⟩) 0 0).ownBlock=some b→b≠x1.heap.size from fun b hb=>by simp[Value.ownBlock] at hb;omega)
       have HGy2:=hide ((unhide HGx2).trans (hby2.mono (unhide HGx2).size))
       clear hby2
       generalize hyy2:x2.alloc (.cells #[] 3)=y2 at *
       clear hyy2
       refine wpMixB_one 4 rfl (by kernel_rfl) (by rfl) (by decide) (fun x3 hx3=>?_)
       have HGx3:=hide ((unhide HGy2).trans (hx3.mono (unhide HGy2).size))
       have hsx3:W10.heap.size≤x3.heap.size:=(unhide HGx3).size
       have HVx3:=hide (GR.own_below (unhide HVy2) hx3)
       have HQx3:=hide (obj_step (unhide HQy2) hx3)
       clear hx3
       obtain⟨v3,y3,hry3,hoy3,hgy3,hwy3⟩:=run_append_row encNum_length (by omega) x3 W10.heap.size 24 24 3 i0 (.int .i64 0) 8 Tryz.underlying24 hi0 hz0 hz1' hz2 rfl (.slice (some ⟨x2.heap.size,0,none⟩) 0 0) 0 (GR.flat encNum ([])) (unhide HVx3) (some ⟨gi,0,none⟩) ((idsS s0 mL).take pos) ccp (GR.At.below (unhide HTL) (unhide HGx3)) (flatNum_one _) (by unfold maxLen;omega) (by omega) hsx3
       rw [hlt1] at hry3 hoy3
       refine Lib.wp_append_run x3 (.tmp 127) (.tmp 130) 24 24 rfl _ _ (by simp[Act.eval]) (by simp[Act.eval]) v3 y3 hry3 ?_
       refine⟨(Below.refl _ _).grown hgy3 hsx3 (fun b hb=>((unhide HVx3).lt b hb).1),?_⟩
       go_simp
       have HGy3:=hide ((unhide HGx3).grown hgy3 hsx3 (fun b hb=>((unhide HVx3).lt b hb).1))
       have HVy3:Hid (y3.ownsRow W10.heap.size 3 1 v3 (pos) (GR.flat encNum ((idsS s0 mL).take pos))):=hide (by simpa [GR.flat_nil] using hoy3)
       have HQy3:=hide (show y3.heap[x1.heap.size]?=some (.cells #[.int .i64 mI] 3 (0,0)) from by rw [hgy3.block _ (obj_lt (unhide HQx3)) (fun hm=>unhide HEy2 _ hm.symm rfl)];exact unhide HQx3)
       have HEy3:=hide (show∀b,(v3).ownBlock=some b→b≠x1.heap.size from fun b hb=>(hwy3 b hb).elim (fun h=>unhide HEy2 b h) (fun h=>by have:=obj_lt (unhide HQx3);omega))
       obtain⟨avR,cvR,hsly3,_⟩:=GR.own_at (enc:=encNum) (sz:=1) (l:=(idsS s0 mL).take pos) encNum_length (by rw [hlt1];exact unhide HVy3)
       rw [hlt1] at hsly3
       subst hsly3
       clear hry3 hoy3 hgy3 hwy3
       generalize x1.heap.size=rb at *
       refine wpMixB_one 8 rfl (by kernel_rfl) (by rfl) (by decide) (fun x4 hx4=>?_)
       have HGx4:=hide ((unhide HGy3).trans (hx4.mono (unhide HGy3).size))
       have hsx4:W10.heap.size≤x4.heap.size:=(unhide HGx4).size
       have HVx4:=hide (GR.own_below (unhide HVy3) hx4)
       have HQx4:=hide (obj_step (unhide HQy3) hx4)
       clear hx4
       obtain⟨v4,y4,hry4,hoy4,hgy4,hwy4⟩:=run_append_where x4 W10.heap.size 24 24 3 i0 (.int .i64 0) 1 8 Tryz.underlying24 hi0 hz0 hz1' hz2 rfl (by decide) (.slice avR (pos) cvR) (pos) (GR.flat encNum ((idsS s0 mL).take pos)) (unhide HVx4) ⟨rb,0,none⟩ 1 1 (encNum mI) rfl (World.news_of_block (unhide HQx4)) (by intro u hu;simp at hu;subst hu;rfl) (by unfold maxLen;omega) (by omega) hsx4
       refine Lib.wp_append_run x4 (.tmp 131) (.tmp 134) 24 24 rfl _ _ (by simp[Act.eval]) (by simp[Act.eval]) v4 y4 hry4 ?_
       refine⟨(Below.refl _ _).grown hgy4 hsx4 (fun b hb=>((unhide HVx4).lt b hb).1),?_⟩
       go_simp
       have HGy4:=hide ((unhide HGx4).grown hgy4 hsx4 (fun b hb=>((unhide HVx4).lt b hb).1))
       have HVy4:Hid (y4.ownsRow W10.heap.size 3 1 v4 (pos+1) (GR.flat encNum ((idsS s0 mL).take pos++[mI]))):=hide (by rw [GR.flat_append,GR.flat_one];exact hoy4)
       have HQy4:=hide (show y4.heap[rb]?=some (.cells #[.int .i64 mI] 3 (0,0)) from by rw [hgy4.block _ (obj_lt (unhide HQx4)) (fun hm=>unhide HEy3 _ hm.symm rfl)];exact unhide HQx4)
       have HEy4:=hide (show∀b,(v4).ownBlock=some b→b≠rb from fun b hb=>(hwy4 b hb).elim (fun h=>unhide HEy3 b h) (fun h=>by have:=obj_lt (unhide HQx4);omega))
       obtain⟨avO,cvO,hsly4,_⟩:=GR.own_at (enc:=encNum) (sz:=1) (l:=(idsS s0 mL).take pos++[mI]) encNum_length (by rw [hL1];exact unhide HVy4)
       rw [hL1] at hsly4
       subst hsly4
       clear hry4 hoy4 hgy4 hwy4
       refine wpMixB_one 12 rfl (by kernel_rfl) (by rfl) (by decide) (fun x5 hx5=>?_)
       have HGx5:=hide ((unhide HGy4).trans (hx5.mono (unhide HGy4).size))
       have hsx5:W10.heap.size≤x5.heap.size:=(unhide HGx5).size
       have HVx5:=hide (GR.own_below (unhide HVy4) hx5)
       have HQx5:=hide (obj_step (unhide HQy4) hx5)
       clear hx5
       obtain⟨v5,y5,hry5,hoy5,hgy5,hwy5⟩:=run_append_row encNum_length (by omega) x5 W10.heap.size 24 24 3 i0 (.int .i64 0) 8 Tryz.underlying24 hi0 hz0 hz1' hz2 rfl (.slice avO (pos+1) cvO) (pos+1) (GR.flat encNum ((idsS s0 mL).take pos++[mI])) (unhide HVx5) AD ((idsS s0 mL).drop pos) (ccp - pos) (GR.At.below (unhide HDR) (unhide HGx5)) (flatNum_one _) (by unfold maxLen;omega) (by omega) hsx5
       rw [hld1] at hry5 hoy5
       refine Lib.wp_append_run x5 (.tmp 135) (.tmp 138) 24 24 rfl _ _ (by simp[Act.eval]) (by simp[Act.eval]) v5 y5 hry5 ?_
       refine⟨(Below.refl _ _).grown hgy5 hsx5 (fun b hb=>((unhide HVx5).lt b hb).1),?_⟩
       go_simp
       have HGy5:=hide ((unhide HGx5).grown hgy5 hsx5 (fun b hb=>((unhide HVx5).lt b hb).1))
       have HVy5:Hid (y5.ownsRow W10.heap.size 3 1 v5 (pos+1+((idsS s0 mL).length - pos)) (GR.flat encNum ((idsS s0 mL).take pos++[mI]++(idsS s0 mL).drop pos))):=hide (by rw [GR.flat_append];exact hoy5)
       have HQy5:=hide (show y5.heap[rb]?=some (.cells #[.int .i64 mI] 3 (0,0)) from by rw [hgy5.block _ (obj_lt (unhide HQx5)) (fun hm=>unhide HEy4 _ hm.symm rfl)];exact unhide HQx5)
       have HEy5:=hide (show∀b,(v5).ownBlock=some b→b≠rb from fun b hb=>(hwy5 b hb).elim (fun h=>unhide HEy4 b h) (fun h=>by have:=obj_lt (unhide HQx5);omega))
       obtain⟨avT,cvT,hsly5,_⟩:=GR.own_at (enc:=encNum) (sz:=1) (l:=(idsS s0 mL).take pos++[mI]++(idsS s0 mL).drop pos) encNum_length (by rw [hL2];exact unhide HVy5)
       rw [hL2] at hsly5
       subst hsly5
       clear hry5 hoy5 hgy5 hwy5
       have hwb2:W10.heap.size≤y5.heap.size:=(unhide HGy5).size
       refine wpMixB_take 13 20 hwb2 rfl (by kernel_rfl) (by kernel_rfl) (by kernel_rfl) (by kernel_rfl) (by kernel_rfl) (fun _ _ _ _ h=>h) (fun K hK=>?_)
       go_simp
       first
        |(refine hK _ ?_;clear hK K)
        |(apply Exists.intro
          refine⟨fun _=>?_,hK _ ?_⟩
          (first|rfl|(trace_state;fail))
          clear hK K)
       refine wpMixB_leave (by kernel_rfl) (fun z hz=>?_)
       have HGz:=hide ((unhide HGy5).trans (hz.mono (unhide HGy5).size))
       have HVz:=hide (GR.own_below (unhide HVy5) hz)
       have hsz:W10.heap.size≤z.heap.size:=(unhide HGz).size
       clear hz
       have HSz:=hide (show z.heap[sb]?=some (.cells #[.int .i64 mF,.int .i64 (lowS s0 mL),.slice (some ⟨gi,0,none⟩) (idsS s0 mL).length ccp] 71 (0,0)) by rw [(unhide HGz).block _ hsl10];exact unhide HS_10)
       obtain⟨_,_,kc⟩:=threeC (unhide HSz)
       have kf:=obj_free (unhide HSz) 2
       refine wpAny_one 14 rfl (by kernel_rfl) (by rfl) ?_
       go_simp
       refine wpAny_done (by kernel_rfl) ?_
       go_simp
       go_wp2_with fail
       go_meet
       case rel=>
        rcases(unhide HVz).2 with⟨_,hn⟩|⟨g,cap,cur,hv,hbg,_⟩
        ·omega
        ·simp only[Value.slice.injEq] at hv
         obtain⟨rfl,_,_⟩:=hv
         have h2:=unhide HVz
         rw [show pos+1+((idsS s0 mL).length - pos)=(idsS s0 mL).length+1 by omega] at h2
         refine⟨g,cvT,hbg,?_,?_,(KeepsL.of_below (unhide HGz)).trans (KeepsL.set _)⟩
         ·rw [unhide HIN]
          rw [List.append_assoc] at h2
          refine own_keep h2 (KeepsL.set _) (fun x hx hm=>?_)
          simp[Value.ownBlock] at hx
          simp at hm
          omega
         ·have h:=blk_setO (unhide HSz) 2 (.slice (some ⟨g,0,none⟩) (pos+1+((idsS s0 mL).length - pos)) cvT)
          rw [show pos+1+((idsS s0 mL).length - pos)=(idsS s0 mL).length+1 by omega] at h ⊢
          exact h
     case rest=>
      obtain⟨g2,cq2,hg2,hown2,hs11,hk11⟩:=hcut
      have HS_11:=hide hs11
      have HN_11:=hide (hk11.obj (unhide HN_10) (fun hx=>by simp at hx;omega))
      have HR_11:=hide (hk11.obj (unhide HR_10) (fun hx=>by simp at hx;omega))
      have HA_11:=hide (hk11.obj (unhide HA_10) (fun hx=>by simp at hx;omega))
      have HNW11:=hide ((unhide HNW10).kc (k:=9) (KC.keeps hk11 (fun x hx=>by have:x=sb:=(by simpa using hx);rw [this];exact unhide HCN _ (by omega) (by omega))) (by omega))
      have HBB11:=hide ((unhide HBB10).trans (hk11.below (B:=B) (fun x hx=>by simp at hx;omega) (by omega)))
      have HKA11:=hide (Apart.keeps (c:=c) (unhide HKA10) (by omega) hk11 (fun x hx=>by have:x=sb:=(by simpa using hx);omega))
      have HP11:=hide ((unhide HP10).keeps hk11 (fun x hx=>by simp at hx;omega))
      have hz11:W10.heap.size≤wc.heap.size:=hk11.size
      have hIns:(insI (idsS s0 mL) mI).length=(idsS s0 mL).length+1:=by rw [unhide HIN];simp;omega
      have hown2':wc.ownsRow W10.heap.size 3 1 (.slice (some ⟨g2,0,none⟩) (insI (idsS s0 mL) mI).length cq2) (insI (idsS s0 mL) mI).length (GR.flat encNum (insI (idsS s0 mL) mI)):=by rw [hIns];exact hown2
      have HW2:=hide (WO.of_own (W_own (l:=insI (idsS s0 mL) mI) encNum_length hown2') hown2' (fun e=>by rw [e] at hIns;simp at hIns))
      have HPL:Hid (∀g,av.map (fun y=>y.block)=some g→0 < RL.length→W7.heap.size≤g∧g < W10.heap.size):=fun g hg hp=>by
       obtain⟨g',off,e,hgl,_⟩:=(unhide HP10).1 0 hp
       have h2:=(unhide HP10).2 g' off e
       rw [e] at hg
       cases hg
       exact⟨h2,hgl⟩
      have hg2l:g2 < wc.heap.size:=(hown2.lt g2 rfl).2
      have hne3:g2≠gi:=by omega
      have hi11:i < (n.seen.set i ⟨mF,lowS s0 mL,idsS s0 mL⟩).length:=by rw [List.length_set];exact hi
      have HNP:=hide ((unhide HNW11).seenPut i hi11 ⟨mF,lowS s0 mL,insI (idsS s0 mL) mI⟩ (some ⟨g2,0,none⟩) cq2 g2 (unhide HW2) (fun x hx=>by rw [(of_fp hx).1];exact unhide HCN _ (by omega) hne3))
      obtain⟨T,hT,hlT,hrT⟩:=(unhide HNW11).s
      obtain⟨_,_,hcT⟩:=hT i (by rw [hlT];exact hi11)
      have hTi:∀j,j < 3→∃u,wc.cell? ⟨G.s,i*3+j,none⟩=some u∧wc.frozen? ⟨G.s,i*3+j,none⟩=false:=fun j hj=>⟨_,(hcT j hj).1.trans (List.getElem?_eq_getElem (by rw [encR3_length];exact hj)),(hcT j hj).2⟩
      obtain⟨v0,y0,x0⟩:=hTi 0 (by omega)
      obtain⟨v1,y1,x1⟩:=hTi 1 (by omega)
      obtain⟨v2,y2,x2⟩:=hTi 2 (by omega)
      rw [Nat.add_zero] at y0 x0
      clear hTi hcT hrT hT hlT T hs11 hk11 hown2 HN_10 HM_10 HR_10 HS_10 HA_10 HIW10 HNW10 HBB10 HKA10 HP10
      have hgsl3:G.s < wc.heap.size:=by omega
      obtain⟨c0,c1,c2,c3,c4,c5,c6,c7,c8⟩:=nine (unhide HN_11)
      obtain⟨s40,s41,s42⟩:=threeC (unhide HS_11)
      have hnl:=obj_lt (unhide HN_11)
      have hsl11:=obj_lt (unhide HS_11)
      have hIns2:Hid ((insI (idsS s0 mL) mI).length=(idsS s0 mL).length+1):=hIns
      clear hIns
      go_upto_region 27 with fail
      refine wp_at (fun W12 hW12=>?_)
      have HNW12:Hid (NQ W12 B (setSeen (setSeen n (n.seen.set i ⟨mF,lowS s0 mL,idsS s0 mL⟩)) ((n.seen.set i ⟨mF,lowS s0 mL,idsS s0 mL⟩).set i ⟨mF,lowS s0 mL,insI (idsS s0 mL) mI⟩)) (⟨a_k,(some ⟨gp,0,none⟩),a_o,(some ⟨G.s,0,none⟩),a_r,a_ck,a_cp,a_co,a_cs,a_cr⟩:Ads) ⟨G.k,G.p,G.o,G.s,G.r,setI (setI G.i i gi) i g2⟩ (col5 g2 (insI (idsS s0 mL) mI) (col5 gi (idsS s0 mL) (newC w.heap.size 9 c)))):=by
       rw [hW12,←unhide hIns2]
       exact unhide HNP
      have hk12:KeepsL [G.s] wc W12:=by
       rw [hW12]
       exact setW_keeps [.int .i64 mF,.int .i64 (lowS s0 mL),.slice (some ⟨g2,0,none⟩) ((idsS s0 mL).length+1) cq2] wc (i*3)
      have HN_12:=hide (hk12.obj (unhide HN_11) (fun hx=>by simp at hx;omega))
      have HR_12:=hide (hk12.obj (unhide HR_11) (fun hx=>by simp at hx;omega))
      have HA_12:=hide (hk12.obj (unhide HA_11) (fun hx=>by simp at hx;omega))
      have HBB12:=hide ((unhide HBB11).trans (hk12.below (B:=B) (fun x hx=>by simp at hx;omega) (by omega)))
      have HKA12:=hide (Apart.keeps (c:=c) (unhide HKA11) (by omega) hk12 (fun x hx=>by have:x=G.s:=(by simpa using hx);rw [this];right;omega))
      have HP12:=hide ((unhide HP11).keeps hk12 (fun x hx=>by simp at hx;omega))
      have HCO2:Hid (∀x,x < w.heap.size→6 < c x→col5 g2 (insI (idsS s0 mL) mI) (col5 gi (idsS s0 mL) (newC w.heap.size 9 c)) x=9):=fun x hx h=>by rw [col5_out (fun hm=>by have:=(of_fp hm).1;omega)];exact unhide HCO x hx h
      have HCN2:Hid (∀x,w.heap.size≤x→x≠gi→x≠g2→col5 g2 (insI (idsS s0 mL) mI) (col5 gi (idsS s0 mL) (newC w.heap.size 9 c)) x=9):=fun x hx h h'=>by rw [col5_out (fun hm=>h' (of_fp hm).1)];exact unhide HCN x hx h
      clear hW12 hk12 HNP y0 y1 y2 x0 x1 x2 s40 s41 s42 c0 c1 c2 c3 c4 c5 c6 c7 c8 hnl hsl11 HN_11 HR_11 HA_11 HBB11 HKA11 HP11 HS_11 HNW11 HW2
      obtain⟨c0,c1,c2,c3,c4,c5,c6,c7,c8⟩:=nine (unhide HN_12)
      obtain⟨d0,d1,d2,d3,d4,d5,d6,d7,d8⟩:=nine (unhide HR_12)
      have f0:=obj_free (unhide HR_12) 0
      have f1:=obj_free (unhide HR_12) 1
      have f2:=obj_free (unhide HR_12) 2
      have f3:=obj_free (unhide HR_12) 3
      have f4:=obj_free (unhide HR_12) 4
      have f5:=obj_free (unhide HR_12) 5
      have f6:=obj_free (unhide HR_12) 6
      have f7:=obj_free (unhide HR_12) 7
      have f8:=obj_free (unhide HR_12) 8
      have hnl:=obj_lt (unhide HN_12)
      have hrl:=obj_lt (unhide HR_12)
      go_wp2_with fail
      refine bodyPost_atN (fun W' hW'=>?_)
      have e4:W'.heap[w.heap.size+2]?=some (.cells #[.int .i64 n.id,.int .i64 n.par,.slice a_k n.kids.length a_ck,.int .i64 n.next,.slice av RL.length cv,.slice a_o n.out.length a_co,.slice (some ⟨G.s,0,none⟩) n.seen.length a_cs,.int .i64 n.old,.slice a_r n.reqs.length a_cr] 30 (0,0)):=by
       rw [hW']
       exact GR.setW_blk [.int .i64 n.id,.int .i64 n.par,.slice a_k n.kids.length a_ck,.int .i64 n.next,.slice av RL.length cv,.slice a_o n.out.length a_co,.slice (some ⟨G.s,0,none⟩) n.seen.length a_cs,.int .i64 n.old,.slice a_r n.reqs.length a_cr] (o:=0) (xs:=[.int .i64 0,.int .i64 0,.slice none 0 0,.int .i64 0,.slice none 0 0,.slice none 0 0,.slice none 0 0,.int .i64 0,.slice none 0 0]) (unhide HR_12)
      have hkf:KeepsL [w.heap.size+2] W12 W':=by
       rw [hW']
       exact setW_keeps [.int .i64 n.id,.int .i64 n.par,.slice a_k n.kids.length a_ck,.int .i64 n.next,.slice av RL.length cv,.slice a_o n.out.length a_co,.slice (some ⟨G.s,0,none⟩) n.seen.length a_cs,.int .i64 n.old,.slice a_r n.reqs.length a_cr] W12 0
      have hrne:w.heap.size+2≠gi:=by omega
      have HNF:=hide ((unhide HNW12).kc (k:=9) (KC.keeps hkf (fun x hx=>by have:x=w.heap.size+2:=(by simpa using hx);rw [this];exact unhide HCN2 _ (by omega) hrne (by omega))) (by omega))
      have HAT:Hid (∀W'',Out c w W' W''→RM W'' (⟨a_k,av,a_o,(some ⟨G.s,0,none⟩),a_r,a_ck,cv,a_co,a_cs,a_cr⟩:Ads) (setSeen (setPu n RL) (n.seen.set i ⟨mF,lowS s0 mL,insI (idsS s0 mL) mI⟩))):=fun W'' ho=>by
       obtain⟨F,hk,hF⟩:=ho
       have hold:=((unhide HNF).kc (k:=9) (KC.keeps hk (fun x hx=>unhide HCO2 x (hF x hx).1 (hF x hx).2)) (by omega))
       have ho:Out c w W' W'':=⟨F,hk,hF⟩
       have hc9:∀g,av.map (fun y=>y.block)=some g→0 < RL.length→col5 g2 (insI (idsS s0 mL) mI) (col5 gi (idsS s0 mL) (newC w.heap.size 9 c)) g=9:=fun g hg hp=>by
        have h1:=unhide HPL g hg hp
        exact unhide HCN2 g (by omega) (by omega) (by omega)
       refine NQ.put hold hold (setSeen (setPu n RL) (n.seen.set i ⟨mF,lowS s0 mL,insI (idsS s0 mL) mI⟩)) (⟨a_k,av,a_o,(some ⟨G.s,0,none⟩),a_r,a_ck,cv,a_co,a_cs,a_cr⟩:Ads) rfl (by simp only[setSeen,List.set_set]) rfl rfl (((unhide HP12).keeps hkf (fun x hx=>by simp at hx;omega)).out (by omega) ho) (fun g hg hp=> .inr (by have h3:=hc9 g hg hp;omega)) hold.o (fun y hy=> .inl (hold.co y hy)) hold.r (fun y hy=> .inl (hold.cr y hy)) (fun g hg hp _=>⟨fun e=>?_,fun e=>?_⟩) (fun x hx h6=>by have:=hold.co x hx;omega)
       ·have h1:=hold.co g e
        have h2:=hc9 g hg hp
        omega
       ·have h1:=hold.cr g e
        have h2:=hc9 g hg hp
        omega
      have HAM:Hid (∀W'',Out c w W' W''→GR.At encM 7 W'' (some ⟨ab,0,none⟩) [⟨2,n.id,mF,mI,0,ByteArray.empty,0⟩]):=fun W'' ho j hj=>ack_at (hkf.obj (unhide HA_12) (fun hm=>by simp at hm;omega)) ho (by omega) j hj
      have HBF:Hid (Below B w W'):=(unhide HBB12).trans (hkf.below (fun x hx=>by have:x=w.heap.size+2:=(by simpa using hx);omega) (by have h1:=obj_lt (unhide HR_12);omega))
      have HKF:=hide (Apart.keeps (c:=c) (unhide HKA12) (by have h1:=obj_lt (unhide HR_12);omega) hkf (fun x hx=>by have:x=w.heap.size+2:=(by simpa using hx);omega))
      obtain⟨x0,x1,x2,x3,x4,x5,x6,x7,x8⟩:=nine e4
      clear hW' e4 hkf
      first
       |exact bodyPost_ret (v:= .tuple #[.agg #[.int .i64 n.id,.int .i64 n.par,.slice a_k n.kids.length a_ck,.int .i64 n.next,.slice av RL.length cv,.slice a_o n.out.length a_co,.slice (some ⟨G.s,0,none⟩) n.seen.length a_cs,.int .i64 n.old,.slice a_r n.reqs.length a_cr],.slice (some ⟨ab,0,none⟩) 1 1,.int .i64 0]) (by simp[results,Tryz.results68,go_sem,x0,x1,x2,x3,x4,x5,x6,x7,x8]) rfl ⟨(⟨a_k,av,a_o,(some ⟨G.s,0,none⟩),a_r,a_ck,cv,a_co,a_cs,a_cr⟩:Ads),(some ⟨ab,0,none⟩),⟨1,by simp[ndv,ndc,setSeen,setPu]⟩,unhide HAT,unhide HAM,unhide HBF,unhide HKF⟩
       |exact bodyPost_ret (v:= .tuple #[.agg #[.int .i64 n.id,.int .i64 n.par,.slice a_k n.kids.length a_ck,.int .i64 n.next,.slice av RL.length cv,.slice a_o n.out.length a_co,.slice (some ⟨G.s,0,none⟩) n.seen.length a_cs,.int .i64 n.old,.slice a_r n.reqs.length a_cr],.slice (some ⟨ab,0,none⟩) 1 1,.int .i64 0]) (by simp[results,Tryz.results68,go_sem,x0,x1,x2,x3,x4,x5,x6,x7,x8]) rfl ⟨(⟨a_k,av,a_o,(some ⟨G.s,0,none⟩),a_r,a_ck,cv,a_co,a_cs,a_cr⟩:Ads),(some ⟨ab,0,none⟩),1,by simp[ndv,ndc,setSeen,setPu],unhide HAT,unhide HAM,unhide HBF,unhide HKF⟩
end Go.Proofs.YtdlokncalhopoaaGreat
