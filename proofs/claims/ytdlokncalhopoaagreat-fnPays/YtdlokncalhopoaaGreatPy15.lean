/- Parts. -/
import Derived.Test.YtdlokncalhopoaaGreatPy1
import Derived.Test.YtdlokncalhopoaaGreatPy3
import Derived.Test.YtdlokncalhopoaaGreatPy14
import Derived.Test.YtdlokncalhopoaaGreatPy8
import Derived.Test.YtdlokncalhopoaaGreatPy9
import Derived.Test.YtdlokncalhopoaaGreatPy2
import Derived.OneCell
import Derived.Deep.Draws
namespace Go.Proofs.YtdlokncalhopoaaGreat
open Go.RowKit
def strBlock (w:World) (g:Nat) (xs:List ByteArray):Prop:=w.heap[g]?=some (.cells (xs.map Value.string).toArray 9 (0,0))
theorem strBlock.cell {w:World} {g:Nat} {xs:List ByteArray} (h:strBlock w g xs) (i:Nat) (hi:i < xs.length):w.cell? ⟨g,i,none⟩=some (.string xs[i]):=by
 rw [cell_of_row w g i _ 9 (0,0) h];simp[hi]
theorem strBlock.free {w:World} {g:Nat} {xs:List ByteArray} (h:strBlock w g xs) (i:Nat):w.frozen? ⟨g,i,none⟩=false:=by
 unfold World.frozen?;rw [h];simp
theorem strBlock.lt {w:World} {g:Nat} {xs:List ByteArray} (h:strBlock w g xs):g < w.heap.size:=by
 rcases Nat.lt_or_ge g w.heap.size with h'|h'
 ·exact h'
 ·rw [strBlock,Array.getElem?_eq_none h'] at h;cases h
theorem strBlock.below {w w':World} {g B:Nat} {xs:List ByteArray} (h:strBlock w g xs) (hb:Below B w w') (hg:g < B):strBlock w' g xs:=by
 unfold strBlock;rw [hb.block g hg];exact h
theorem strBlock.set {w:World} {g:Nat} {xs:List ByteArray} (h:strBlock w g xs) (i:Nat) (t:ByteArray):strBlock (w.setCell ⟨g,i,none⟩ (.string t)) g (xs.set i t):=by
 unfold strBlock World.setCell
 simp only[Array.getElem?_modify]
 rw [if_pos trivial,h]
 simp
structure Keeps (g:Nat) (w w':World):Prop where
 os:w'.os=w.os
 tape:w'.tape=w.tape
 output:w'.output=w.output
 size:w.heap.size≤w'.heap.size
 block:∀k,k < w.heap.size→k≠g→w'.heap[k]?=w.heap[k]?
theorem Keeps.refl (g:Nat) (w:World):Keeps g w w:=⟨rfl,rfl,rfl,Nat.le_refl _,fun _ _ _=>rfl⟩
theorem Keeps.trans {g:Nat} {a b c:World} (h:Keeps g a b) (k:Keeps g b c):Keeps g a c:=
 ⟨k.os.trans h.os,k.tape.trans h.tape,k.output.trans h.output,Nat.le_trans h.size k.size,fun i hi hg=>(k.block i (Nat.lt_of_lt_of_le hi h.size) hg).trans (h.block i hi hg)⟩
theorem Keeps.of_below {g:Nat} {w w':World} (h:Below w.heap.size w w'):Keeps g w w':=⟨h.os,h.tape,h.output,h.size,fun k hk _=>h.block k hk⟩
theorem Keeps.set {g i:Nat} {w:World} (v:Value):Keeps g w (w.setCell ⟨g,i,none⟩ v):=
 ⟨rfl,rfl,rfl,by simp[World.setCell],fun k _ hg=>Below.heap_setCell _ _ _ _ hg⟩
theorem Keeps.below {g B:Nat} {w w':World} (h:Keeps g w w') (hB:B≤g) (hs:B≤w.heap.size):Below B w w':=⟨h.os,h.tape,h.output,h.size,fun k hk=>h.block k (by omega) (by omega)⟩
theorem strBlock.keeps {w w':World} {g g':Nat} {xs:List ByteArray} (h:strBlock w g' xs) (hk:Keeps g w w') (hne:g'≠g):strBlock w' g' xs:=by
 unfold strBlock;rw [hk.block g' h.lt hne];exact h
open Mth
theorem setW_cell_otherN {g k:Nat}:∀(vs:List Value) (w:World) (o:Nat),k < o∨o+vs.length≤k→(GR.setW w g o vs).cell? ⟨g,k,none⟩=w.cell? ⟨g,k,none⟩:=by
 intro vs
 induction vs with
 |nil=>intro w o _;rfl
 |cons v vs ih=>
  intro w o h
  rw [List.length_cons] at h
  exact(ih (w.setCell ⟨g,o,none⟩ v) (o+1) (by omega)).trans (World.cell?_setCell_other _ _ _ _ (by simp<;>omega))
theorem setW_cell_sameN {g:Nat}:∀(vs:List Value) (w:World) (o:Nat),(∀j,j < vs.length→∃v,w.cell? ⟨g,o+j,none⟩=some v)→∀j,j < vs.length→(GR.setW w g o vs).cell? ⟨g,o+j,none⟩=vs[j]?:=by
 intro vs
 induction vs with
 |nil=>intro w o _ j hj;simp at hj
 |cons v vs ih=>
  intro w o h j hj
  cases j with
  |zero=>
   obtain⟨v0,hv0⟩:=h 0 (by simp)
   rw [Nat.add_zero] at hv0 ⊢
   refine(setW_cell_otherN vs (w.setCell ⟨g,o,none⟩ v) (o+1) (by omega)).trans ?_
   rw [World.cell?_setCell_same _ _ _ hv0]
   rfl
  |succ j=>
   have h2:=ih (w.setCell ⟨g,o,none⟩ v) (o+1) (fun j' hj'=>by
    obtain⟨v1,hv1⟩:=h (j'+1) (by simpa using hj')
    refine⟨v1,(World.cell?_setCell_other _ _ _ _ (by simp<;>omega)).trans ?_⟩
    rw [←hv1,show o+1+j'=o+(j'+1) by omega]) j (by simpa using hj)
   rw [show o+1+j=o+(j+1) by omega] at h2
   exact h2
theorem setW_frozenN {g k:Nat}:∀(vs:List Value) (w:World) (o:Nat),(GR.setW w g o vs).frozen? ⟨g,k,none⟩=w.frozen? ⟨g,k,none⟩:=by
 intro vs
 induction vs with
 |nil=>intro w o;rfl
 |cons v vs ih=>intro w o;exact(ih (w.setCell ⟨g,o,none⟩ v) (o+1)).trans (by rw [World.frozen?_setCell])
theorem setW_sizeN {g:Nat}:∀(vs:List Value) (w:World) (o:Nat),(GR.setW w g o vs).heap.size=w.heap.size:=by
 intro vs
 induction vs with
 |nil=>intro w o;rfl
 |cons v vs ih=>intro w o;exact(ih (w.setCell ⟨g,o,none⟩ v) (o+1)).trans (by simp[World.setCell])
theorem setW_keeps {g:Nat}:∀(vs:List Value) (w:World) (o:Nat),KeepsL [g] w (GR.setW w g o vs):=by
 intro vs
 induction vs with
 |nil=>intro w o;exact KeepsL.refl _ _
 |cons v vs ih=>intro w o;exact(KeepsL.set v).trans (ih (w.setCell ⟨g,o,none⟩ v) (o+1))
theorem GR.W.set {α:Type} {enc:α→List Value} {sz:Nat} {w:World} {a:Option Addr} {g:Nat} {l:List α} (hs:∀x,(enc x).length=sz) (h:GR.W enc sz w a g l) (k:Nat) (x:α) (hk:k < l.length):GR.W enc sz (GR.setW w g (k*sz) (enc x)) a g (l.set k x):=fun i hi=>by
 have hi':i < l.length:=by simpa using hi
 obtain⟨e,hg,hc⟩:=h i hi'
 refine⟨e,by rw [setW_sizeN];exact hg,fun j hj=>⟨?_,by rw [setW_frozenN];exact(hc j hj).2⟩⟩
 by_cases hik:i=k
 ·subst hik
  rw [setW_cell_sameN (enc x) w (i*sz) (fun j' hj'=>by
   have hj4:j' < sz:=by rw [hs] at hj';exact hj'
   have h1:=(hc j' hj4).1
   rw [List.getElem?_eq_getElem (by rw [hs];exact hj4)] at h1
   exact⟨_,h1⟩) j (by rw [hs];exact hj)]
  simp
 ·have hcase:i*sz+j < k*sz∨k*sz+sz≤i*sz+j:=by
   rcases Nat.lt_or_gt_of_ne hik with h'|h'
   ·left
    have:=Nat.mul_le_mul_right sz (show i+1≤k by omega)
    rw [Nat.add_mul,Nat.one_mul] at this
    omega
   ·right
    have:=Nat.mul_le_mul_right sz (show k+1≤i by omega)
    rw [Nat.add_mul,Nat.one_mul] at this
    omega
  rw [setW_cell_otherN (enc x) w (k*sz) (by rw [hs];exact hcase),(hc j hj).1,List.getElem_set_ne (by omega)]
theorem fp_len {α β:Type} {g:Nat} {l:List α} {l':List β} (h:l.length=l'.length):fp g l=fp g l':=by
 unfold fp
 cases l with
 |nil=>cases l' with|nil=>rfl|cons y l'=>simp at h
 |cons x l=>cases l' with|nil=>simp at h|cons y l'=>rfl
def GR.C (w:World) (a:Option Addr) (g:Nat) (cs:List Value):Prop:=∀j (hj:j < cs.length),a=some ⟨g,0,none⟩∧g < w.heap.size∧w.cell? ⟨g,j,none⟩=some cs[j]∧w.frozen? ⟨g,j,none⟩=false
theorem GR.C.set {w:World} {a:Option Addr} {g:Nat} {cs:List Value} (h:GR.C w a g cs) (k:Nat) (v:Value):GR.C (w.setCell ⟨g,k,none⟩ v) a g (cs.set k v):=fun j hj=>by
 have hj':j < cs.length:=by simpa using hj
 obtain⟨e,hg,hc,hf⟩:=h j hj'
 refine⟨e,by simpa [World.setCell] using hg,?_,by rw [World.frozen?_setCell];exact hf⟩
 by_cases hjk:j=k
 ·subst hjk
  rw [World.cell?_setCell_same _ _ _ hc]
  simp
 ·rw [World.cell?_setCell_other _ _ _ _ (by simp<;>omega),hc,List.getElem_set_ne (by omega)]
theorem GR.C.below {w w':World} {a:Option Addr} {g:Nat} {cs:List Value} (h:GR.C w a g cs) (hb:Below w.heap.size w w'):GR.C w' a g cs:=fun j hj=>by
 obtain⟨e,hg,hc,hf⟩:=h j hj
 exact⟨e,Nat.lt_of_lt_of_le hg hb.size,(hb.cell (p:=⟨g,j,none⟩) hg).trans hc,(hb.frozen (p:=⟨g,j,none⟩) hg).trans hf⟩
theorem GR.W.toC {α:Type} {enc:α→List Value} {sz:Nat} {w:World} {a:Option Addr} {g:Nat} {l:List α} (hs:∀x,(enc x).length=sz) (hz:0 < sz) (h:GR.W enc sz w a g l):GR.C w a g (GR.flat enc l):=fun j hj=>by
 have hj2:j < l.length*sz:=by rwa [GR.flat_length enc sz hs] at hj
 have hq:j / sz < l.length:=Nat.div_lt_of_lt_mul (by rw [Nat.mul_comm];exact hj2)
 have hr:j % sz < sz:=Nat.mod_lt _ hz
 have ej:j / sz*sz+j % sz=j:=Nat.div_add_mod' j sz
 obtain⟨e,hg,hc⟩:=h (j / sz) hq
 obtain⟨h1,h2⟩:=hc (j % sz) hr
 have hf:=GR.flat_at enc sz hs l (j / sz) hq (j % sz) hr
 rw [ej] at h1 h2 hf
 exact⟨e,hg,by rw [h1,←hf,List.getElem?_eq_getElem hj],h2⟩
theorem GR.C.toW {α:Type} {enc:α→List Value} {sz:Nat} {w:World} {a:Option Addr} {g:Nat} {l:List α} (hs:∀x,(enc x).length=sz) (hz:0 < sz) (h:GR.C w a g (GR.flat enc l)):GR.W enc sz w a g l:=fun i hi=>by
 have hlt:∀j,j < sz→i*sz+j < (GR.flat enc l).length:=fun j hj=>by
  rw [GR.flat_length enc sz hs]
  have:=Nat.mul_le_mul_right sz (show i+1≤l.length by omega)
  rw [Nat.add_mul,Nat.one_mul] at this
  omega
 refine⟨(h (i*sz+0) (hlt 0 hz)).1,(h (i*sz+0) (hlt 0 hz)).2.1,fun j hj=>?_⟩
 obtain⟨_,_,hc,hf⟩:=h (i*sz+j) (hlt j hj)
 refine⟨?_,hf⟩
 rw [hc,←GR.flat_at enc sz hs l i hi j hj,List.getElem?_eq_getElem]
theorem GR.W.one {w:World} {a:Option Addr} {g:Nat} {l:List Int} (h:GR.W encNum 1 w a g l) (i:Nat) (hi:i < l.length):a=some ⟨g,0,none⟩∧g < w.heap.size∧w.cell? ⟨g,i,none⟩=some (.int .i64 l[i])∧w.frozen? ⟨g,i,none⟩=false:=by
 obtain⟨e,hg,hc⟩:=h i hi
 exact⟨e,hg,by simpa using(hc 0 (by omega)).1,by simpa using(hc 0 (by omega)).2⟩
theorem SeenW.put {w:World} {a:Option Addr} {g:Nat} {I:Nat→Nat} {l:List Sn} (h:SeenW w a g I l) (k:Nat) (hk:k < l.length) (f lo:Int) (hne:∀x∈fpI I l,x≠g):
 SeenW ((w.setCell ⟨g,k*3,none⟩ (.int .i64 f)).setCell ⟨g,k*3+1,none⟩ (.int .i64 lo)) a g I (l.set k ⟨f,lo,l[k].ids⟩):=by
 obtain⟨T,hT,hl,hr⟩:=h
 obtain⟨b,c,ht,hi2⟩:=hr k hk
 have hkT:k < T.length:=by omega
 have htk:T[k]=⟨l[k].f,l[k].l,.slice b l[k].ids.length c⟩:=by
  rw [List.getElem?_eq_getElem hkT] at ht
  exact Option.some.inj ht
 have hC:=((GR.W.toC encR3_length (by omega) hT).set (k*3) (.int .i64 f)).set (k*3+1) (.int .i64 lo)
 have hf:=GR.flat_set encR3 3 encR3_length T k ⟨f,lo,.slice b l[k].ids.length c⟩ hkT
 have h3:(((GR.flat encR3 T).set (k*3) (.int .i64 f)).set (k*3+1) (.int .i64 lo)).set (k*3+2) (.slice b l[k].ids.length c)=GR.flat encR3 (T.set k ⟨f,lo,.slice b l[k].ids.length c⟩):=hf
 have hat:=GR.flat_at encR3 3 encR3_length T k hkT 2 (by omega)
 rw [htk] at hat
 have h4:((GR.flat encR3 T).set (k*3) (.int .i64 f)).set (k*3+1) (.int .i64 lo)=GR.flat encR3 (T.set k ⟨f,lo,.slice b l[k].ids.length c⟩):=by
  rw [←h3]
  apply List.ext_getElem?
  intro j
  by_cases hj:j=k*3+2
  ·subst hj
   have hlt:k*3+2 < (GR.flat encR3 T).length:=by rw [GR.flat_length encR3 3 encR3_length];omega
   rw [List.getElem?_set_self (by simpa using hlt),List.getElem?_set_ne (by omega),List.getElem?_set_ne (by omega),hat]
   rfl
  ·rw [List.getElem?_set_ne (i:=k*3+2) (by omega)]
 rw [h4] at hC
 have hK:KeepsL [g] w ((w.setCell ⟨g,k*3,none⟩ (.int .i64 f)).setCell ⟨g,k*3+1,none⟩ (.int .i64 lo)):=(KeepsL.set _).trans (KeepsL.set _)
 refine⟨T.set k ⟨f,lo,.slice b l[k].ids.length c⟩,GR.C.toW encR3_length (by omega) hC,by simpa using hl,fun i hi=>?_⟩
 have hi':i < l.length:=by simpa using hi
 by_cases hik:i=k
 ·subst hik
  refine⟨b,c,?_,?_⟩
  ·rw [List.getElem?_set_self hkT];simp
  ·rw [List.getElem_set_self]
   exact hi2.keeps hK (fun x hx=>by simpa using hne x (fpI_mem hi' x hx))
 ·obtain⟨b',c',ht',hi3⟩:=hr i hi'
  refine⟨b',c',?_,?_⟩
  ·rw [List.getElem?_set_ne (by omega),ht',List.getElem_set_ne (by omega)]
  ·rw [List.getElem_set_ne (by omega)]
   exact hi3.keeps hK (fun x hx=>by simpa using hne x (fpI_mem hi' x hx))
theorem fpI_diff {I:Nat→Nat} {l:List Sn} (hnd:(fpI I l).Nodup) {i k:Nat} (hi:i < l.length) (hk:k < l.length) (hik:i≠k) (h1:0 < l[i].ids.length) (h2:0 < l[k].ids.length):I i≠I k:=by
 intro he
 have hd:∀j (hj:j < l.length),l.getD j default=l[j]:=fun j hj=>by rw [List.getD_eq_getElem?_getD,List.getElem?_eq_getElem hj];rfl
 have key:∀a b,a < b→b < l.length→0 < (l.getD a default).ids.length→0 < (l.getD b default).ids.length→I a≠I b:=by
  intro a b hab hb ha1 hb1 hI
  unfold fpI at hnd
  have e1:List.range l.length=List.range b++(List.range (l.length - b)).map (b+·):=by
   rw [←List.range_add]
   congr 1
   omega
  rw [e1,List.flatMap_append,List.nodup_append] at hnd
  refine hnd.2.2 (I a) ?_ (I b) ?_ hI
  ·rw [List.mem_flatMap]
   exact⟨a,List.mem_range.2 hab,fp_mem ha1⟩
  ·rw [List.mem_flatMap]
   exact⟨b,List.mem_map.2 ⟨0,List.mem_range.2 (by omega),by simp⟩,fp_mem hb1⟩
 rcases Nat.lt_or_gt_of_ne hik with h|h
 ·exact key i k h hk (by rw [hd i hi];exact h1) (by rw [hd k hk];exact h2) he
 ·exact key k i h hi (by rw [hd k hk];exact h2) (by rw [hd i hi];exact h1) he.symm
theorem SeenW.ids {w w':World} {a:Option Addr} {g:Nat} {I:Nat→Nat} {l:List Sn} (h:SeenW w a g I l) (k:Nat) (hk:k < l.length) (b:Option Addr) (c:Nat) (ids:List Int) (hb:w.cell? ⟨g,k*3+2,none⟩=some (.slice b l[k].ids.length c)) (hlen:ids.length=l[k].ids.length) (hw:GR.W encNum 1 w' b (I k) ids) (hK:KeepsL (fp (I k) l[k].ids) w w')
 (hne:∀x∈fpI I l,x≠g) (hnd:(fpI I l).Nodup):SeenW w' a g I (l.set k ⟨l[k].f,l[k].l,ids⟩):=by
 obtain⟨T,hT,hl,hr⟩:=h
 have hkT:k < T.length:=by omega
 have hfpk:∀x∈fp (I k) l[k].ids,x∈fpI I l:=fpI_mem hk
 have hT':GR.W encR3 3 w' a g T:=hT.keeps hK (fun x hx hx2=>by
  rw [(of_fp hx).1] at hx2
  exact hne _ (hfpk _ hx2) rfl)
 refine⟨T,hT',by simpa using hl,fun i hi=>?_⟩
 have hi':i < l.length:=by simpa using hi
 obtain⟨b',c',ht',hi3⟩:=hr i hi'
 by_cases hik:i=k
 ·subst hik
  obtain⟨_,_,hc⟩:=hT i hkT
  have h2:=(hc 2 (by omega)).1
  rw [List.getElem?_eq_getElem hkT] at ht'
  rw [Option.some.inj ht'] at h2
  have h2':w.cell? ⟨g,i*3+2,none⟩=some (.slice b' l[i].ids.length c'):=h2
  rw [hb] at h2'
  injection h2' with h2'
  injection h2' with e1 e2 e3
  subst e1 e3
  refine⟨b,c,?_,?_⟩
  ·rw [List.getElem?_eq_getElem hkT,Option.some.inj ht',List.getElem_set_self]
   simp[hlen]
  ·rw [List.getElem_set_self];exact hw
 ·refine⟨b',c',?_,?_⟩
  ·rw [ht',List.getElem_set_ne (by omega)]
  ·rw [List.getElem_set_ne (by omega)]
   refine hi3.keeps hK (fun x hx hx2=>?_)
   have e1:=(of_fp hx).1
   have e2:=(of_fp hx2).1
   have hIk:I i=I k:=by rw [←e1,←e2]
   exact fpI_diff hnd hi' hk hik (of_fp hx).2 (of_fp hx2).2 hIk
theorem SeenW.three {w:World} {a:Option Addr} {g:Nat} {I:Nat→Nat} {l:List Sn} (h:SeenW w a g I l) (i:Nat) (hi:i < l.length):∃b c,a=some ⟨g,0,none⟩∧g < w.heap.size∧(w.cell? ⟨g,i*3,none⟩=some (.int .i64 l[i].f)∧w.cell? ⟨g,i*3+1,none⟩=some (.int .i64 l[i].l)∧w.cell? ⟨g,i*3+2,none⟩=some (.slice b l[i].ids.length c))∧(w.frozen? ⟨g,i*3,none⟩=false∧w.frozen? ⟨g,i*3+1,none⟩=false)∧GR.W encNum 1 w b (I i) l[i].ids:=by
 obtain⟨T,hT,hl,hr⟩:=h
 obtain⟨b,c,ht,hi2⟩:=hr i hi
 have hkT:i < T.length:=by omega
 obtain⟨e,hg,hc⟩:=hT i hkT
 rw [List.getElem?_eq_getElem hkT] at ht
 rw [Option.some.inj ht] at hc
 exact⟨b,c,e,hg,⟨by simpa using(hc 0 (by omega)).1,by simpa using(hc 1 (by omega)).1,by simpa using(hc 2 (by omega)).1⟩,⟨by simpa using(hc 0 (by omega)).2,(hc 1 (by omega)).2⟩,hi2⟩
theorem SeenW.below {w w':World} {a:Option Addr} {g:Nat} {I:Nat→Nat} {l:List Sn} (h:SeenW w a g I l) (hb:Below w.heap.size w w'):SeenW w' a g I l:=h.keeps (F:=[]) (KeepsL.of_below hb) (fun _ _=>by simp) (fun _ _=>by simp)
theorem W_lt {α:Type} {enc:α→List Value} {sz:Nat} {w:World} {a:Option Addr} {g:Nat} {l:List α} (h:GR.W enc sz w a g l):∀x∈fp g l,x < w.heap.size:=fun x hx=>by
 rw [(of_fp hx).1]
 exact(h 0 (of_fp hx).2).2.1
structure KC (c:Nat→Nat) (k:Nat) (w w':World):Prop where
 os:w'.os=w.os
 tape:w'.tape=w.tape
 output:w'.output=w.output
 size:w.heap.size≤w'.heap.size
 block:∀x,x < w.heap.size→c x≠k→w'.heap[x]?=w.heap[x]?
theorem KC.of_below {c:Nat→Nat} {k:Nat} {w w':World} (h:Below w.heap.size w w'):KC c k w w':=⟨h.os,h.tape,h.output,h.size,fun x hx _=>h.block x hx⟩
theorem KC.trans {c:Nat→Nat} {k:Nat} {a b d:World} (h:KC c k a b) (h':KC c k b d):KC c k a d:=
 ⟨h'.os.trans h.os,h'.tape.trans h.tape,h'.output.trans h.output,Nat.le_trans h.size h'.size,fun x hx hc=>(h'.block x (Nat.lt_of_lt_of_le hx h.size) hc).trans (h.block x hx hc)⟩
theorem KC.set {c:Nat→Nat} {k g i:Nat} {w:World} {v:Value} (hc:c g=k):KC c k w (w.setCell ⟨g,i,none⟩ v):=
 ⟨rfl,rfl,rfl,by simp[World.setCell],fun x _ hx=>Below.heap_setCell _ _ _ _ (fun e=>hx (by rw [e];exact hc))⟩
theorem KC.keeps {c:Nat→Nat} {k:Nat} {F:List Nat} {w w':World} (h:KeepsL F w w') (hF:∀x∈F,c x=k):KC c k w w':=⟨h.os,h.tape,h.output,h.size,fun x hx hc=>h.block x hx (fun hm=>hc (hF x hm))⟩
theorem KC.grown {c:Nat→Nat} {k:Nat} {row:Option Nat} {w w':World} (h:w.grownBy w' row) (hF:∀x,row=some x→c x=k):KC c k w w':=⟨h.os,h.tape,h.output,h.size,fun x hx hc=>h.block x hx (fun hm=>hc (hF x hm.symm))⟩
theorem KC.below {c:Nat→Nat} {k B:Nat} {a w w':World} (hb:Below B a w) (h:KC c k w w') (hlo:∀x,x < B→c x=0) (hk:k≠0) (hB:B≤w.heap.size):Below B a w':=
 ⟨h.os.trans hb.os,h.tape.trans hb.tape,h.output.trans hb.output,Nat.le_trans hb.size h.size,fun x hx=>(h.block x (by omega) (by rw [hlo x hx];omega)).trans (hb.block x hx)⟩
theorem KC.obj {c:Nat→Nat} {k g:Nat} {w w':World} {o:Obj} (h:KC c k w w') (ho:w.heap[g]?=some o) (hg:c g≠k):w'.heap[g]?=some o:=by rw [h.block g (obj_lt ho) hg];exact ho
theorem KC.w {α:Type} {enc:α→List Value} {sz:Nat} {c:Nat→Nat} {k j:Nat} {w w':World} {a:Option Addr} {g:Nat} {l:List α} (h:KC c k w w') (hw:GR.W enc sz w a g l) (hc:∀x∈fp g l,c x=j) (hj:j≠k):GR.W enc sz w' a g l:=fun i hi=>by
 obtain⟨e,hg,hcell⟩:=hw i hi
 have hb:=h.block g hg (by rw [hc g (fp_mem (by omega))];exact hj)
 exact⟨e,Nat.lt_of_lt_of_le hg h.size,fun q hq=>⟨(World.cell?_of_block (w:=w) hb).trans (hcell q hq).1,(World.frozen?_of_block (w:=w) hb).trans (hcell q hq).2⟩⟩
theorem KC.own {c:Nat→Nat} {k j B:Nat} {w w':World} {e:TypeId} {sz n:Nat} {v:Value} {xs:List Value} (h:KC c k w w') (ho:w.ownsRow B e sz v n xs) (hc:∀x,v.ownBlock=some x→c x=j) (hj:j≠k):w'.ownsRow B e sz v n xs:=by
 refine⟨ho.1,?_⟩
 rcases ho.2 with hn|⟨g,cap,cur,rfl,hb,hgg,rest⟩
 ·exact .inl hn
 ·exact .inr ⟨g,cap,cur,rfl,hb,h.obj hgg (by rw [hc g rfl];exact hj),rest⟩
theorem KC.seen {c:Nat→Nat} {k:Nat} {w w':World} {a:Option Addr} {g:Nat} {I:Nat→Nat} {l:List Sn} (h:KC c k w w') (hs:SeenW w a g I l) (h4:∀x∈fp g l,c x=4) (h5:∀x∈fpI I l,c x=5) (hk4:4≠k) (hk5:5≠k):SeenW w' a g I l:=by
 obtain⟨T,hT,hl,hr⟩:=hs
 refine⟨T,h.w hT (fun x hx=>h4 x ?_) hk4,hl,fun i hi=>?_⟩
 ·have:=of_fp hx
  rw [this.1]
  exact fp_mem (by omega)
 ·obtain⟨b,d,ht,hi2⟩:=hr i hi
  exact⟨b,d,ht,h.w hi2 (fun x hx=>h5 x (fpI_mem hi x hx)) hk5⟩
structure NO (w:World) (B:Nat) (n:Nd) (A:Ads) (G:Blks) (c:Nat→Nat):Prop where
 k:GR.W encNum 1 w A.k G.k n.kids
 p:GR.W encP 4 w A.p G.p n.pu
 o:w.ownsRow B 40 4 (.slice A.o n.out.length A.co) n.out.length (GR.flat encSnt n.out)
 s:SeenW w A.s G.s G.i n.seen
 r:w.ownsRow B 56 4 (.slice A.r n.reqs.length A.cr) n.reqs.length (GR.flat encRq n.reqs)
 lo:∀x,x < B→c x=0
 ck:∀x∈fp G.k n.kids,c x=1
 cp:∀x∈fp G.p n.pu,c x=2
 co:∀x,(Value.slice A.o n.out.length A.co).ownBlock=some x→c x=3
 c4:∀x∈fp G.s n.seen,c x=4
 ci:∀x∈fpI G.i n.seen,c x=5
 cr:∀x,(Value.slice A.r n.reqs.length A.cr).ownBlock=some x→c x=6
 ni:(fpI G.i n.seen).Nodup
theorem NO.kc {w w':World} {B:Nat} {n:Nd} {A:Ads} {G:Blks} {c:Nat→Nat} {k:Nat} (h:NO w B n A G c) (hk:KC c k w w') (h7:6 < k):NO w' B n A G c:=
 ⟨hk.w h.k h.ck (by omega),hk.w h.p h.cp (by omega),hk.own h.o h.co (by omega),hk.seen h.s h.c4 h.ci (by omega) (by omega),hk.own h.r h.cr (by omega),h.lo,h.ck,h.cp,h.co,h.c4,h.ci,h.cr,h.ni⟩
theorem fpW_lt {α:Type} {enc:α→List Value} {sz:Nat} {w:World} {a:Option Addr} {g:Nat} {l:List α} (h:GR.W enc sz w a g l):∀x∈fp g l,x < w.heap.size:=fun x hx=>by
 have:=of_fp hx
 rw [this.1]
 exact(h 0 this.2).2.1
theorem seen_lt {w:World} {a:Option Addr} {g:Nat} {I:Nat→Nat} {l:List Sn} (h:SeenW w a g I l):(∀x∈fp g l,x < w.heap.size)∧∀x∈fpI I l,x < w.heap.size:=by
 obtain⟨T,hT,hl,hr⟩:=h
 refine⟨fun x hx=>fpW_lt hT x ?_,fun x hx=>?_⟩
 ·have:=of_fp hx
  rw [this.1]
  exact fp_mem (by omega)
 ·obtain⟨i,hi,rfl,hpos⟩:=of_fpI hx
  obtain⟨b,d,ht,hi2⟩:=hr i hi
  exact fpW_lt hi2 _ (fp_mem hpos)
theorem NO.recol {w:World} {B:Nat} {n:Nd} {A:Ads} {G:Blks} {c c':Nat→Nat} (h:NO w B n A G c) (hB:B≤w.heap.size) (hc:∀x,x < w.heap.size→c' x=c x):NO w B n A G c':=
 ⟨h.k,h.p,h.o,h.s,h.r,fun x hx=>(hc x (by omega)).trans (h.lo x hx),fun x hx=>(hc x (fpW_lt h.k x hx)).trans (h.ck x hx),fun x hx=>(hc x (fpW_lt h.p x hx)).trans (h.cp x hx),
  fun x hx=>(hc x (h.o.lt x hx).2).trans (h.co x hx),fun x hx=>(hc x ((seen_lt h.s).1 x hx)).trans (h.c4 x hx),fun x hx=>(hc x ((seen_lt h.s).2 x hx)).trans (h.ci x hx),fun x hx=>(hc x (h.r.lt x hx).2).trans (h.cr x hx),h.ni⟩
theorem NO.at {w:World} {B:Nat} {n:Nd} {A:Ads} {G:Blks} {c:Nat→Nat} (h:NO w B n A G c):NodeAt w A n:=by
 refine⟨h.k.at,h.p.at,?_,h.s.at,?_⟩
 ·obtain⟨a,cp,he,ha⟩:=GR.own_at (enc:=encSnt) (sz:=4) (l:=n.out) encSnt_length h.o
  cases he
  exact ha
 ·obtain⟨a,cp,he,ha⟩:=GR.own_at (enc:=encRq) (sz:=4) (l:=n.reqs) encRq_length h.r
  cases he
  exact ha
structure WK (w0 w:World) (wb:Nat) (n:Nd) (A:Ads) (G:Blks) (c:Nat→Nat) (v:Value) (L:List Mg):Prop where
 keep:Below w0.heap.size w0 w
 blk:w.heap[wb]?=some (.cells (wkc n A v) 45 (0,0))
 no:NO w w0.heap.size n A G c
 m:w.ownsRow w0.heap.size 37 7 v L.length (GR.flat encM L)
 cm:∀x,v.ownBlock=some x→c x=7
 cw:c wb=8
theorem WK.kc {w0 w w':World} {wb:Nat} {n:Nd} {A:Ads} {G:Blks} {c:Nat→Nat} {v:Value} {L:List Mg} {k:Nat} (h:WK w0 w wb n A G c v L) (hk:KC c k w w') (h8:8 < k):WK w0 w' wb n A G c v L:=
 ⟨hk.below h.keep h.no.lo (by omega) h.keep.size,hk.obj h.blk (by rw [h.cw];omega),h.no.kc hk (by omega),hk.own h.m h.cm (by omega),h.cm,h.cw⟩
theorem WK.step {w0 w w':World} {wb:Nat} {n:Nd} {A:Ads} {G:Blks} {c:Nat→Nat} {v:Value} {L:List Mg} (h:WK w0 w wb n A G c v L) (hb:Below w.heap.size w w'):WK w0 w' wb n A G c v L:=h.kc (k:=9) (KC.of_below hb) (by omega)
theorem WK.recol {w0 w:World} {wb:Nat} {n:Nd} {A:Ads} {G:Blks} {c c':Nat→Nat} {v:Value} {L:List Mg} (h:WK w0 w wb n A G c v L) (hc:∀x,x < w.heap.size→c' x=c x):WK w0 w wb n A G c' v L:=
 ⟨h.keep,h.blk,h.no.recol h.keep.size hc,h.m,fun x hx=>(hc x (h.m.lt x hx).2).trans (h.cm x hx),(hc wb (obj_lt h.blk)).trans h.cw⟩
theorem WK.lo {w0 w:World} {wb:Nat} {n:Nd} {A:Ads} {G:Blks} {c:Nat→Nat} {v:Value} {L:List Mg} (h:WK w0 w wb n A G c v L):w0.heap.size≤wb:=by
 rcases Nat.lt_or_ge wb w0.heap.size with h'|h'
 ·have:=h.no.lo wb h'
  rw [h.cw] at this
  cases this
 ·exact h'
def newC (B k:Nat) (c:Nat→Nat):Nat→Nat:=fun x=>if B≤x then k else c x
theorem newC_old {B k x:Nat} {c:Nat→Nat} (h:x < B):newC B k c x=c x:=by unfold newC;rw [if_neg (by omega)]
theorem newC_new {B k x:Nat} {c:Nat→Nat} (h:B≤x):newC B k c x=k:=by unfold newC;rw [if_pos h]
theorem NO.kc0 {w w':World} {B:Nat} {n:Nd} {A:Ads} {G:Blks} {c:Nat→Nat} (h:NO w B n A G c) (hk:KC c 0 w w'):NO w' B n A G c:=
 ⟨hk.w h.k h.ck (by omega),hk.w h.p h.cp (by omega),hk.own h.o h.co (by omega),hk.seen h.s h.c4 h.ci (by omega) (by omega),hk.own h.r h.cr (by omega),h.lo,h.ck,h.cp,h.co,h.c4,h.ci,h.cr,h.ni⟩
theorem fpI_nodup (I:Nat→Nat) (l:List Sn):(fpI I l).Nodup↔∀i j (hi:i < l.length) (hj:j < l.length),i < j→0 < l[i].ids.length→0 < l[j].ids.length→I i≠I j:=by
 have hg:∀i (hi:i < l.length),l.getD i default=l[i]:=fun i hi=>by rw [List.getD_eq_getElem?_getD,List.getElem?_eq_getElem hi];rfl
 unfold fpI List.Nodup
 rw [List.pairwise_flatMap]
 constructor
 ·rintro⟨_,h⟩ i j hi hj hij h1 h2 e
  rw [List.pairwise_iff_getElem] at h
  have:=h i j (by simpa using hi) (by simpa using hj) hij
  rw [List.getElem_range,List.getElem_range,hg i hi,hg j hj] at this
  exact this (I i) (fp_mem h1) (I j) (fp_mem h2) e
 ·intro h
  refine⟨fun i _=>fp_nodup _ _,?_⟩
  rw [List.pairwise_iff_getElem]
  intro i j hi hj hij x hx y hy
  have hi':i < l.length:=by simpa using hi
  have hj':j < l.length:=by simpa using hj
  rw [List.getElem_range,hg i hi'] at hx
  rw [List.getElem_range,hg j hj'] at hy
  obtain⟨rfl,h1⟩:=of_fp hx
  obtain⟨rfl,h2⟩:=of_fp hy
  exact h i j hi' hj' hij h1 h2
theorem flat_num (l:List Int):GR.flat encNum l=l.map (Value.int .i64):=by
 induction l with
 |nil=>rfl
 |cons x l ih=>rw [GR.flat_cons,ih];rfl
theorem encRq_one (q:Rq):∀u∈encRq q,u.oneCell'=true:=by
 intro u hu
 simp only[encRq,List.mem_cons,List.not_mem_nil,or_false] at hu
 rcases hu with rfl|rfl|rfl|rfl<;>rfl
theorem flatRq_one (l:List Rq):∀u∈GR.flat encRq l,u.oneCell'=true:=by
 intro u hu
 unfold GR.flat at hu
 obtain⟨q,_,hq⟩:=List.mem_flatMap.1 hu
 exact encRq_one q u hq
def PuW (w:World) (a:Option Addr) (g:Nat) (l:List Pu):Prop:=∀i (hi:i < l.length),a=some ⟨g,0,none⟩∧g < w.heap.size∧∀j,j < 4→w.cell? ⟨g,i*4+j,none⟩=(encP l[i])[j]?∧w.frozen? ⟨g,i*4+j,none⟩=false
theorem PuW.at {w:World} {a:Option Addr} {g:Nat} {l:List Pu} (h:PuW w a g l):PursesAt w a l:=fun i hi=>
 ⟨g,0,(h i hi).1,(h i hi).2.1,fun j hj=>by rw [Nat.zero_add];exact((h i hi).2.2 j hj).1⟩
theorem PuW.of_blk {w:World} {g:Nat} {l:List Pu} (h:puBlk w g l):PuW w (some ⟨g,0,none⟩) g l:=fun i hi=>
 ⟨rfl,GR.Blk.lt h,fun j hj=>⟨GR.Blk.cell h encP_length i hi j hj,GR.Blk.free h _⟩⟩
theorem PuW.nil {w:World} {a:Option Addr} {g:Nat}:PuW w a g []:=fun i hi=>by simp at hi
theorem PuW.below {w w':World} {a:Option Addr} {g:Nat} {l:List Pu} (h:PuW w a g l) (hb:Below w.heap.size w w'):PuW w' a g l:=fun i hi=>by
 obtain⟨e,hg,hc⟩:=h i hi
 exact⟨e,Nat.lt_of_lt_of_le hg hb.size,fun j hj=>⟨(hb.cell (p:=⟨g,i*4+j,none⟩) hg).trans (hc j hj).1,(hb.frozen (p:=⟨g,i*4+j,none⟩) hg).trans (hc j hj).2⟩⟩
theorem PuW.keeps {w w':World} {a:Option Addr} {g g':Nat} {l:List Pu} (h:PuW w a g l) (hk:Keeps g' w w') (hne:l=[]∨g≠g'):PuW w' a g l:=by
 rcases hne with rfl|hne
 ·exact PuW.nil
 ·intro i hi
  obtain⟨e,hg,hc⟩:=h i hi
  exact⟨e,Nat.lt_of_lt_of_le hg hk.size,fun j hj=>⟨(World.cell?_of_block (w:=w) (hk.block g hg hne)).trans (hc j hj).1,(World.frozen?_of_block (w:=w) (hk.block g hg hne)).trans (hc j hj).2⟩⟩
theorem PuW.four {w:World} {a:Option Addr} {g:Nat} {l:List Pu} (h:PuW w a g l) (i:Nat) (hi:i < l.length):a=some ⟨g,0,none⟩∧g < w.heap.size∧(w.cell? ⟨g,i*4,none⟩=some (.string l[i].k)∧w.cell? ⟨g,i*4+1,none⟩=some (.int .i64 l[i].m)∧w.cell? ⟨g,i*4+2,none⟩=some (.int .i64 l[i].f)∧w.cell? ⟨g,i*4+3,none⟩=some (.int .i64 l[i].s))∧w.frozen? ⟨g,i*4,none⟩=false∧w.frozen? ⟨g,i*4+1,none⟩=false∧w.frozen? ⟨g,i*4+2,none⟩=false∧w.frozen? ⟨g,i*4+3,none⟩=false:=by
 obtain⟨e,hg,hc⟩:=h i hi
 exact⟨e,hg,⟨by simpa using(hc 0 (by omega)).1,by simpa using(hc 1 (by omega)).1,by simpa using(hc 2 (by omega)).1,by simpa using(hc 3 (by omega)).1⟩,by simpa using(hc 0 (by omega)).2,(hc 1 (by omega)).2,(hc 2 (by omega)).2,(hc 3 (by omega)).2⟩
theorem setW_cell_other {g k:Nat}:∀(vs:List Value) (w:World) (o:Nat),k < o∨o+vs.length≤k→(GR.setW w g o vs).cell? ⟨g,k,none⟩=w.cell? ⟨g,k,none⟩:=by
 intro vs
 induction vs with
 |nil=>intro w o _;rfl
 |cons v vs ih=>
  intro w o h
  rw [List.length_cons] at h
  exact(ih (w.setCell ⟨g,o,none⟩ v) (o+1) (by omega)).trans (World.cell?_setCell_other _ _ _ _ (by simp<;>omega))
theorem setW_cell_same {g:Nat}:∀(vs:List Value) (w:World) (o:Nat),(∀j,j < vs.length→∃v,w.cell? ⟨g,o+j,none⟩=some v)→∀j,j < vs.length→(GR.setW w g o vs).cell? ⟨g,o+j,none⟩=vs[j]?:=by
 intro vs
 induction vs with
 |nil=>intro w o _ j hj;simp at hj
 |cons v vs ih=>
  intro w o h j hj
  cases j with
  |zero=>
   obtain⟨v0,hv0⟩:=h 0 (by simp)
   rw [Nat.add_zero] at hv0 ⊢
   refine(setW_cell_other vs (w.setCell ⟨g,o,none⟩ v) (o+1) (by omega)).trans ?_
   rw [World.cell?_setCell_same _ _ _ hv0]
   rfl
  |succ j=>
   have h2:=ih (w.setCell ⟨g,o,none⟩ v) (o+1) (fun j' hj'=>by
    obtain⟨v1,hv1⟩:=h (j'+1) (by simpa using hj')
    refine⟨v1,(World.cell?_setCell_other _ _ _ _ (by simp<;>omega)).trans ?_⟩
    rw [←hv1,show o+1+j'=o+(j'+1) by omega]) j (by simpa using hj)
   rw [show o+1+j=o+(j+1) by omega] at h2
   exact h2
theorem setW_frozen {g k:Nat}:∀(vs:List Value) (w:World) (o:Nat),(GR.setW w g o vs).frozen? ⟨g,k,none⟩=w.frozen? ⟨g,k,none⟩:=by
 intro vs
 induction vs with
 |nil=>intro w o;rfl
 |cons v vs ih=>intro w o;exact(ih (w.setCell ⟨g,o,none⟩ v) (o+1)).trans (by rw [World.frozen?_setCell])
theorem setW_size {g:Nat}:∀(vs:List Value) (w:World) (o:Nat),(GR.setW w g o vs).heap.size=w.heap.size:=by
 intro vs
 induction vs with
 |nil=>intro w o;rfl
 |cons v vs ih=>intro w o;exact(ih (w.setCell ⟨g,o,none⟩ v) (o+1)).trans (by simp[World.setCell])
theorem PuW.set {w:World} {a:Option Addr} {g:Nat} {l:List Pu} (h:PuW w a g l) (k:Nat) (x:Pu) (hk:k < l.length):PuW (GR.setW w g (k*4) (encP x)) a g (l.set k x):=fun i hi=>by
 have hi':i < l.length:=by simpa using hi
 obtain⟨e,hg,hc⟩:=h i hi'
 refine⟨e,by rw [setW_size];exact hg,fun j hj=>⟨?_,by rw [setW_frozen];exact(hc j hj).2⟩⟩
 by_cases hik:i=k
 ·subst hik
  rw [setW_cell_same (encP x) w (i*4) (fun j' hj'=>by
   have hj4:j' < 4:=by rw [encP_length] at hj';exact hj'
   have h1:=(hc j' hj4).1
   rw [List.getElem?_eq_getElem (by rw [encP_length];exact hj4)] at h1
   exact⟨_,h1⟩) j (by rw [encP_length];exact hj)]
  simp
 ·rw [setW_cell_other (encP x) w (k*4) (by rw [encP_length];omega),(hc j hj).1,List.getElem_set_ne (by omega)]
end Go.Proofs.YtdlokncalhopoaaGreat
