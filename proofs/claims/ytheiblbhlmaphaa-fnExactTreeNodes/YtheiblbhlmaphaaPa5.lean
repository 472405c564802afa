/-
  DecS, Mark, Keeps, MarkB, NdMark, NdNewM.
-/
import Derived.Test.YtheiblbhlmaphaaPa4
import Derived.Test.YtheiblbhlmaphaaPa1
import Derived.Test.YtheiblbhlmaphaaPa2
import Derived.Test.YtheiblbhlmaphaaPaZ2
import Derived.Laws.DeepStrings4
import Derived.OneCell
import Derived.Deep.Draws
namespace Go.Proofs.Ytheiblbhlmaphaa
open Go.RowKit
open Go.Lib (decDigits itoa)
def leftDigits (a:Nat):List UInt8:=if a=0 then[] else decDigits a
theorem left_step (a:Nat) (l t:List UInt8) (h0:a≠0) (h:leftDigits a++l=t):leftDigits (a / 10)++(UInt8.ofNat (48+a % 10)::l)=t:=by
 unfold leftDigits at *;rw [if_neg h0] at h;by_cases hs:a < 10
 ·have e1:a / 10=0:=by omega
  have e2:a % 10=a:=by omega
  rw [Mth.digits_small a hs] at h;rw [e1,e2,if_pos rfl];simpa using h
 ·rw [Mth.digits_big a hs] at h;rw [if_neg (by omega),←h];simp
theorem ten_at:∀d:Fin 10,(ByteArray.mk #[48,49,50,51,52,53,54,55,56,57]).extract d.1 (d.1+1)=⟨#[UInt8.ofNat (48+d.1)]⟩:=by decide+kernel
theorem ten_add (d:Nat) (hd:d < 10) (l:List UInt8):(ByteArray.mk #[48,49,50,51,52,53,54,55,56,57]).extract d (d+1)++⟨l.toArray⟩=⟨(UInt8.ofNat (48+d)::l).toArray⟩:=by
 rw [ten_at ⟨d,hd⟩];apply ByteArray.ext
 simp
theorem neg_tmod (a:Nat):(-(a:Int)).tmod 10= -((a:Int) % 10):=by rw [Int.neg_tmod,Int.tmod_eq_emod_of_nonneg (by omega)]
theorem neg_tdiv (a:Nat):(-(a:Int)).tdiv 10= -((a:Int) / 10):=by rw [Int.neg_tdiv,Int.tdiv_eq_ediv_of_nonneg (by omega)]
theorem minus_add (l:List UInt8):(ByteArray.mk #[45])++⟨l.toArray⟩=⟨(45::l).toArray⟩:=by
 apply ByteArray.ext;simp
set_option maxHeartbeats 1000000
set_option maxRecDepth 100000
open Go.Lib (decDigits)
def mark (k:Nat):ByteArray:=⟨(109::decDigits k).toArray⟩
theorem one_add (b:UInt8) (l:List UInt8):(ByteArray.mk #[b])++⟨l.toArray⟩=⟨(b::l).toArray⟩:=by
 apply ByteArray.ext;simp
theorem conv_one (w:World) (z:Int) (b:UInt8) (hz:z=b.toNat) (cap:Nat):(convert 81 9 (.slice (some ⟨w.heap.size,0,none⟩) 1 cap)).run Try.prog (w.alloc (.cells #[.int .u8 z] 5))= .ok (.string ⟨#[b]⟩) (w.alloc (.cells #[.int .u8 z] 5)):=by
 subst hz
 have:=run_convert_bytes_back (P:=Try.prog) (w.alloc (.cells #[.int .u8 (b.toNat:Int)] 5)) 81 9 5 ⟨w.heap.size,0,none⟩ cap [b] Try.underlying81 Try.underlying5 Try.underlying9 (fun j hj=>by
  have:j=0:=by simpa using hj
  subst this;simp[Addr.add])
 simpa using this
theorem markText (k:Nat) (w:World) (h0:0 < k) (hk:(k:Int)≤9223372036854775807):
 Calls Try.prog 43 #[.int .i64 k] w fun e w'=>e= .returned (.string (mark k))∧Below w.heap.size w w':=by
 have hlen:(decDigits k).length≤21:=by have:=Lib.itoa_length_le k (by omega) hk;rw [Lib.itoa,if_neg (by omega)] at this;simpa using this
 have hpos:decide ((k:Int)≤0)=false:=by simp;omega
 go_enter Try.func43,Try.ntmps43
 go_wp2
 go_loopw [0,3] (fun m o wr=>∃(a:Nat) (l:List UInt8),a≤k∧m= .int .i64 a∧o= .string ⟨l.toArray⟩∧leftDigits a++l=decDigits k∧Below w.heap.size w wr) (fun m _ _=>(intOf m).toNat)
 case atStart=>exact⟨k,[],Nat.le_refl _,rfl,rfl,by unfold leftDigits;rw [if_neg (by omega)];simp,Below.refl _ _⟩
 case round=>
  obtain⟨a,l,ha,rfl,rfl,hl,hbel⟩:=hrel;have HL:=hide hl;have hll:l.length≤21:=by have:=congrArg List.length hl;rw [List.length_append] at this;omega
  clear hl;by_cases hz:a=0
  ·subst hz;have HE:=hide (show l=decDigits k by have:=unhide HL;simpa [leftDigits] using this);have hA:=hide (one_add 109 l);clear HL;go_wp2
   go_ret;exact⟨ret_string (by unfold mark;rw [←unhide HE];exact hA),hbel⟩
  ·have HS:=hide (left_step a l _ hz HL);obtain⟨b,hb⟩:∃b,b=UInt8.ofNat (48+a % 10):=⟨_,rfl⟩;rw [←hb] at HS;have hA:=hide (one_add b l);have hconv:=conv_one wr (48+(a:Int) % 10) b (by rw [hb,Mth.toNat_byte _ (by omega)];omega) 1;clear HL hb;go_wp2
   go_roundw
   case rel=>exact⟨a / 10,_,by omega,by go_num,by rw [unhide hA],HS,by first|exact hbel.alloc (by have:=hbel.size;omega) _|exact(hbel.alloc (by have:=hbel.size;omega) _).drew⟩
   case measure=>simp[intOf];omega
def strBlock (w:World) (g:Nat) (xs:List ByteArray):Prop:=w.heap[g]?=some (.cells (xs.map Value.string).toArray 9 (0,0))
theorem strBlock.cell {w:World} {g:Nat} {xs:List ByteArray} (h:strBlock w g xs) (i:Nat) (hi:i < xs.length):w.cell? ⟨g,i,none⟩=some (.string xs[i]):=by
 rw [cell_of_row w g i _ 9 (0,0) h];simp[hi]
theorem strBlock.free {w:World} {g:Nat} {xs:List ByteArray} (h:strBlock w g xs) (i:Nat):w.frozen? ⟨g,i,none⟩=false:=by
 unfold World.frozen?;rw [h];simp
theorem strBlock.lt {w:World} {g:Nat} {xs:List ByteArray} (h:strBlock w g xs):g < w.heap.size:=by
 rcases Nat.lt_or_ge g w.heap.size with h'|h'
 ·exact h'
 ·rw [strBlock,Array.getElem?_eq_none h'] at h;cases h
theorem strBlock.below {w w':World} {g B:Nat} {xs:List ByteArray} (h:strBlock w g xs) (hb:Below B w w') (hg:g < B):strBlock w' g xs:=by
 unfold strBlock;rw [hb.block g hg];exact h
theorem strBlock.set {w:World} {g:Nat} {xs:List ByteArray} (h:strBlock w g xs) (i:Nat) (t:ByteArray):strBlock (w.setCell ⟨g,i,none⟩ (.string t)) g (xs.set i t):=by
 unfold strBlock World.setCell;simp only[Array.getElem?_modify];rw [if_pos trivial,h];simp
structure Keeps (g:Nat) (w w':World):Prop where
 os:w'.os=w.os
 tape:w'.tape=w.tape
 output:w'.output=w.output
 size:w.heap.size≤w'.heap.size
 block:∀k,k < w.heap.size→k≠g→w'.heap[k]?=w.heap[k]?
theorem Keeps.refl (g:Nat) (w:World):Keeps g w w:=⟨rfl,rfl,rfl,Nat.le_refl _,fun _ _ _=>rfl⟩
theorem Keeps.trans {g:Nat} {a b c:World} (h:Keeps g a b) (k:Keeps g b c):Keeps g a c:=
 ⟨k.os.trans h.os,k.tape.trans h.tape,k.output.trans h.output,Nat.le_trans h.size k.size,fun i hi hg=>(k.block i (Nat.lt_of_lt_of_le hi h.size) hg).trans (h.block i hi hg)⟩
theorem Keeps.of_below {g:Nat} {w w':World} (h:Below w.heap.size w w'):Keeps g w w':=⟨h.os,h.tape,h.output,h.size,fun k hk _=>h.block k hk⟩
theorem Keeps.set {g i:Nat} {w:World} (v:Value):Keeps g w (w.setCell ⟨g,i,none⟩ v):=
 ⟨rfl,rfl,rfl,by simp[World.setCell],fun k _ hg=>Below.heap_setCell _ _ _ _ hg⟩
theorem Keeps.below {g B:Nat} {w w':World} (h:Keeps g w w') (hB:B≤g) (hs:B≤w.heap.size):Below B w w':=⟨h.os,h.tape,h.output,h.size,fun k hk=>h.block k (by omega) (by omega)⟩
theorem strBlock.keeps {w w':World} {g g':Nat} {xs:List ByteArray} (h:strBlock w g' xs) (hk:Keeps g w w') (hne:g'≠g):strBlock w' g' xs:=by
 unfold strBlock;rw [hk.block g' h.lt hne];exact h
theorem below_of_drewN {B q:Nat} {w w':World} (h:Below B (w.drewN q) w'):Below B w w':=⟨h.os,h.tape,h.output,h.size,h.block⟩
open Mth
theorem setW_cell_otherN {g k:Nat}:∀(vs:List Value) (w:World) (o:Nat),k < o∨o+vs.length≤k→(GR.setW w g o vs).cell? ⟨g,k,none⟩=w.cell? ⟨g,k,none⟩:=by
 intro vs;induction vs with
 |nil=>intro w o _;rfl
 |cons v vs ih=>
  intro w o h
  rw [List.length_cons] at h
  exact(ih (w.setCell ⟨g,o,none⟩ v) (o+1) (by omega)).trans (World.cell?_setCell_other _ _ _ _ (by simp<;>omega))
theorem setW_cell_sameN {g:Nat}:∀(vs:List Value) (w:World) (o:Nat),(∀j,j < vs.length→∃v,w.cell? ⟨g,o+j,none⟩=some v)→∀j,j < vs.length→(GR.setW w g o vs).cell? ⟨g,o+j,none⟩=vs[j]?:=by
 intro vs;induction vs with
 |nil=>intro w o _ j hj;simp at hj
 |cons v vs ih=>
  intro w o h j hj
  cases j with
  |zero=>
   obtain⟨v0,hv0⟩:=h 0 (by simp)
   rw [Nat.add_zero] at hv0 ⊢
   refine(setW_cell_otherN vs (w.setCell ⟨g,o,none⟩ v) (o+1) (by omega)).trans ?_
   rw [World.cell?_setCell_same _ _ _ hv0]
   rfl
  |succ j=>
   have h2:=ih (w.setCell ⟨g,o,none⟩ v) (o+1) (fun j' hj'=>by
    obtain⟨v1,hv1⟩:=h (j'+1) (by simpa using hj')
    refine⟨v1,(World.cell?_setCell_other _ _ _ _ (by simp<;>omega)).trans ?_⟩
    rw [←hv1,show o+1+j'=o+(j'+1) by omega]) j (by simpa using hj)
   rw [show o+1+j=o+(j+1) by omega] at h2
   exact h2
theorem setW_frozenN {g k:Nat}:∀(vs:List Value) (w:World) (o:Nat),(GR.setW w g o vs).frozen? ⟨g,k,none⟩=w.frozen? ⟨g,k,none⟩:=by
 intro vs;induction vs with
 |nil=>intro w o;rfl
 |cons v vs ih=>intro w o;exact(ih (w.setCell ⟨g,o,none⟩ v) (o+1)).trans (by rw [World.frozen?_setCell])
theorem setW_sizeN {g:Nat}:∀(vs:List Value) (w:World) (o:Nat),(GR.setW w g o vs).heap.size=w.heap.size:=by
 intro vs;induction vs with
 |nil=>intro w o;rfl
 |cons v vs ih=>intro w o;exact(ih (w.setCell ⟨g,o,none⟩ v) (o+1)).trans (by simp[World.setCell])
theorem setW_keeps {g:Nat}:∀(vs:List Value) (w:World) (o:Nat),KeepsL [g] w (GR.setW w g o vs):=by
 intro vs;induction vs with
 |nil=>intro w o;exact KeepsL.refl _ _
 |cons v vs ih=>intro w o;exact(KeepsL.set v).trans (ih (w.setCell ⟨g,o,none⟩ v) (o+1))
theorem GR.W.set {α:Type} {enc:α→List Value} {sz:Nat} {w:World} {a:Option Addr} {g:Nat} {l:List α} (hs:∀x,(enc x).length=sz) (h:GR.W enc sz w a g l) (k:Nat) (x:α) (hk:k < l.length):GR.W enc sz (GR.setW w g (k*sz) (enc x)) a g (l.set k x):=fun i hi=>by
 have hi':i < l.length:=by simpa using hi
 obtain⟨e,hg,hc⟩:=h i hi';refine⟨e,by rw [setW_sizeN];exact hg,fun j hj=>⟨?_,by rw [setW_frozenN];exact(hc j hj).2⟩⟩;by_cases hik:i=k
 ·subst hik
  rw [setW_cell_sameN (enc x) w (i*sz) (fun j' hj'=>by
   have hj4:j' < sz:=by rw [hs] at hj';exact hj'
   have h1:=(hc j' hj4).1
   rw [List.getElem?_eq_getElem (by rw [hs];exact hj4)] at h1
   exact⟨_,h1⟩) j (by rw [hs];exact hj)]
  simp
 ·have hcase:i*sz+j < k*sz∨k*sz+sz≤i*sz+j:=by
   rcases Nat.lt_or_gt_of_ne hik with h'|h'
   ·left
    have:=Nat.mul_le_mul_right sz (show i+1≤k by omega);rw [Nat.add_mul,Nat.one_mul] at this;omega
   ·right
    have:=Nat.mul_le_mul_right sz (show k+1≤i by omega);rw [Nat.add_mul,Nat.one_mul] at this;omega
  rw [setW_cell_otherN (enc x) w (k*sz) (by rw [hs];exact hcase),(hc j hj).1,List.getElem_set_ne (by omega)]
def mks {α:Type} (mk:Nat→α) (c s:Nat) (l:List α) (k:Nat):List α:=(List.range k).map (fun i=>mk (s+c*i))++l.drop k
theorem mks_length {α:Type} (mk:Nat→α) (c s:Nat) (l:List α) (k:Nat) (hk:k≤l.length):(mks mk c s l k).length=l.length:=by simp[mks];omega
theorem mks_zero {α:Type} (mk:Nat→α) (c s:Nat) (l:List α):mks mk c s l 0=l:=by simp[mks]
theorem mks_set {α:Type} (mk:Nat→α) (c s:Nat) (l:List α) (k:Nat) (hk:k < l.length):(mks mk c s l k).set k (mk (s+c*k))=mks mk c s l (k+1):=by
 have e:l.drop k=l[k]::l.drop (k+1):=List.drop_eq_getElem_cons hk;unfold mks;rw [e,List.set_append_right _ _ (by simp)];simp only[List.length_map,List.length_range,Nat.sub_self,List.set_cons_zero,List.range_succ,List.map_append,List.map_cons,List.map_nil,List.append_assoc,List.cons_append,List.nil_append]
theorem mks_at {α:Type} (mk:Nat→α) (c s:Nat) (l:List α) (n k:Nat) (hk:k < n) (hn:n≤l.length):(mks mk c s l n)[k]'(by rw [mks_length mk c s l n hn];omega)=mk (s+c*k):=by
 unfold mks;rw [List.getElem_append_left (by simpa using hk)];simp
theorem fp_keeps {α:Type} {g:Nat} {l:List α} {w w':World} (h:KeepsL [g] w w') (hl:0 < l.length):KeepsL (fp g l) w w':=h.mono (fun x hx=>by
 have:x=g:=by simpa using hx
 rw [this]
 exact fp_mem hl)
theorem fp_len {α β:Type} {g:Nat} {l:List α} {l':List β} (h:l.length=l'.length):fp g l=fp g l':=by
 unfold fp;cases l with
 |nil=>cases l' with|nil=>rfl|cons y l'=>simp at h
 |cons x l=>cases l' with|nil=>simp at h|cons y l'=>rfl
def GR.C (w:World) (a:Option Addr) (g:Nat) (cs:List Value):Prop:=∀j (hj:j < cs.length),a=some ⟨g,0,none⟩∧g < w.heap.size∧w.cell? ⟨g,j,none⟩=some cs[j]∧w.frozen? ⟨g,j,none⟩=false
theorem GR.C.set {w:World} {a:Option Addr} {g:Nat} {cs:List Value} (h:GR.C w a g cs) (k:Nat) (v:Value):GR.C (w.setCell ⟨g,k,none⟩ v) a g (cs.set k v):=fun j hj=>by
 have hj':j < cs.length:=by simpa using hj
 obtain⟨e,hg,hc,hf⟩:=h j hj';refine⟨e,by simpa [World.setCell] using hg,?_,by rw [World.frozen?_setCell];exact hf⟩;by_cases hjk:j=k
 ·subst hjk;rw [World.cell?_setCell_same _ _ _ hc];simp
 ·rw [World.cell?_setCell_other _ _ _ _ (by simp<;>omega),hc,List.getElem_set_ne (by omega)]
theorem GR.C.below {w w':World} {a:Option Addr} {g:Nat} {cs:List Value} (h:GR.C w a g cs) (hb:Below w.heap.size w w'):GR.C w' a g cs:=fun j hj=>by
 obtain⟨e,hg,hc,hf⟩:=h j hj;exact⟨e,Nat.lt_of_lt_of_le hg hb.size,(hb.cell (p:=⟨g,j,none⟩) hg).trans hc,(hb.frozen (p:=⟨g,j,none⟩) hg).trans hf⟩
theorem GR.W.toC {α:Type} {enc:α→List Value} {sz:Nat} {w:World} {a:Option Addr} {g:Nat} {l:List α} (hs:∀x,(enc x).length=sz) (hz:0 < sz) (h:GR.W enc sz w a g l):GR.C w a g (GR.flat enc l):=fun j hj=>by
 have hj2:j < l.length*sz:=by rwa [GR.flat_length enc sz hs] at hj
 have hq:j / sz < l.length:=Nat.div_lt_of_lt_mul (by rw [Nat.mul_comm];exact hj2);have hr:j % sz < sz:=Nat.mod_lt _ hz;have ej:j / sz*sz+j % sz=j:=Nat.div_add_mod' j sz;obtain⟨e,hg,hc⟩:=h (j / sz) hq;obtain⟨h1,h2⟩:=hc (j % sz) hr;have hf:=GR.flat_at enc sz hs l (j / sz) hq (j % sz) hr;rw [ej] at h1 h2 hf;exact⟨e,hg,by rw [h1,←hf,List.getElem?_eq_getElem hj],h2⟩
theorem GR.C.toW {α:Type} {enc:α→List Value} {sz:Nat} {w:World} {a:Option Addr} {g:Nat} {l:List α} (hs:∀x,(enc x).length=sz) (hz:0 < sz) (h:GR.C w a g (GR.flat enc l)):GR.W enc sz w a g l:=fun i hi=>by
 have hlt:∀j,j < sz→i*sz+j < (GR.flat enc l).length:=fun j hj=>by
  rw [GR.flat_length enc sz hs]
  have:=Nat.mul_le_mul_right sz (show i+1≤l.length by omega)
  rw [Nat.add_mul,Nat.one_mul] at this
  omega
 refine⟨(h (i*sz+0) (hlt 0 hz)).1,(h (i*sz+0) (hlt 0 hz)).2.1,fun j hj=>?_⟩;obtain⟨_,_,hc,hf⟩:=h (i*sz+j) (hlt j hj);refine⟨?_,hf⟩;rw [hc,←GR.flat_at enc sz hs l i hi j hj,List.getElem?_eq_getElem]
theorem markTextI (k:Nat) (z:Int) (w:World) (hz:z=k) (h0:0 < k) (hk:(k:Int)≤9223372036854775807):
 Calls Try.prog 43 #[.int .i64 z] w fun e w'=>e= .returned (.string (mark k))∧Below w.heap.size w w':=by
 subst hz;exact markText k w h0 hk
set_option maxHeartbeats 2000000
def mkPurse (k:Nat):Pu:=⟨mark k,(k:Int)+1,(k:Int)+2,(k:Int)+3⟩
theorem GR.W.fourPurse {w:World} {a:Option Addr} {g:Nat} {l:List Pu} (h:GR.W encP 4 w a g l) (i:Nat) (hi:i < l.length):a=some ⟨g,0,none⟩∧g < w.heap.size∧(w.cell? ⟨g,i*4,none⟩=some (.string l[i].k)∧w.cell? ⟨g,i*4+1,none⟩=some (.int .i64 l[i].m)∧w.cell? ⟨g,i*4+2,none⟩=some (.int .i64 l[i].f)∧w.cell? ⟨g,i*4+3,none⟩=some (.int .i64 l[i].s))∧w.frozen? ⟨g,i*4,none⟩=false∧w.frozen? ⟨g,i*4+1,none⟩=false∧w.frozen? ⟨g,i*4+2,none⟩=false∧w.frozen? ⟨g,i*4+3,none⟩=false:=by
 exact Za8
theorem markPurseG (a:Option Addr) (g c s:Nat) (l:List Pu) (w:World) (hs0:0 < s) (hs1:s≤4000000000000) (hl:l.length≤1048600) (ha:GR.W encP 4 w a g l):
 Calls Try.prog 24 #[.slice a l.length c,.int .i64 s] w fun e w'=>e= .returned (.int .i64 (s+4*(l.length:Int)))∧GR.W encP 4 w' a g (mks mkPurse 4 s l l.length)∧KeepsL (fp g l) w w':=by
 have HA:=hide ha;clear ha;go_enter Try.func24,Try.ntmps24
 go_wp2_with fail;go_loopw [1,5] (fun kk i wr=>∃k m:Nat,k≤l.length∧i= .int .i64 k∧kk= .int .i64 m∧m=s+4*k∧GR.W encP 4 wr a g (mks mkPurse 4 s l k)∧KeepsL (fp g l) w wr) (fun _ i _=>l.length - (intOf i).toNat)
 case atStart=>exact Za13
 case round=>
  open Sa50 in exact Ya16
theorem heldPurseG (a:Option Addr) (g c n s:Nat) (l:List Pu) (w:World) (hn:n=l.length) (hs0:0 < s) (hs1:s≤4000000000000) (hl:l.length≤1048600) (ha:GR.W encP 4 w a g (mks mkPurse 4 s l l.length)):
 Calls Try.prog 29 #[.slice a n c,.int .i64 s] w fun e w'=>e= .returned (.int .i64 (s+4*(l.length:Int)))∧Below w.heap.size w w':=by
 have HA:=hide ha;clear ha;subst hn;go_enter Try.func29,Try.ntmps29
 go_wp2_with fail;go_loopw [1,5] (fun kk i wr=>∃k m:Nat,k≤l.length∧i= .int .i64 k∧kk= .int .i64 m∧m=s+4*k∧Below w.heap.size w wr) (fun _ i _=>l.length - (intOf i).toNat)
 case atStart=>exact Za19
 case round=>
  open Sa55 in exact Ya17
def mkSent (k:Nat):Snt:=⟨(k:Int),(k:Int)+1,mark (k+2),(k:Int)+3⟩
theorem GR.W.fourSent {w:World} {a:Option Addr} {g:Nat} {l:List Snt} (h:GR.W encSnt 4 w a g l) (i:Nat) (hi:i < l.length):a=some ⟨g,0,none⟩∧g < w.heap.size∧(w.cell? ⟨g,i*4,none⟩=some (.int .i64 l[i].i)∧w.cell? ⟨g,i*4+1,none⟩=some (.int .i64 l[i].t)∧w.cell? ⟨g,i*4+2,none⟩=some (.string l[i].k)∧w.cell? ⟨g,i*4+3,none⟩=some (.int .i64 l[i].n))∧w.frozen? ⟨g,i*4,none⟩=false∧w.frozen? ⟨g,i*4+1,none⟩=false∧w.frozen? ⟨g,i*4+2,none⟩=false∧w.frozen? ⟨g,i*4+3,none⟩=false:=by
 exact Za8
theorem markSentG (a:Option Addr) (g c s:Nat) (l:List Snt) (w:World) (hs0:0 < s) (hs1:s≤4000000000000) (hl:l.length≤1048600) (ha:GR.W encSnt 4 w a g l):
 Calls Try.prog 25 #[.slice a l.length c,.int .i64 s] w fun e w'=>e= .returned (.int .i64 (s+4*(l.length:Int)))∧GR.W encSnt 4 w' a g (mks mkSent 4 s l l.length)∧KeepsL (fp g l) w w':=by
 have HA:=hide ha;clear ha;go_enter Try.func25,Try.ntmps25
 go_wp2_with fail;go_loopw [1,5] (fun kk i wr=>∃k m:Nat,k≤l.length∧i= .int .i64 k∧kk= .int .i64 m∧m=s+4*k∧GR.W encSnt 4 wr a g (mks mkSent 4 s l k)∧KeepsL (fp g l) w wr) (fun _ i _=>l.length - (intOf i).toNat)
 case atStart=>exact Za13
 case round=>
  open Sa49 in exact Ya16
theorem heldSentG (a:Option Addr) (g c n s:Nat) (l:List Snt) (w:World) (hn:n=l.length) (hs0:0 < s) (hs1:s≤4000000000000) (hl:l.length≤1048600) (ha:GR.W encSnt 4 w a g (mks mkSent 4 s l l.length)):
 Calls Try.prog 30 #[.slice a n c,.int .i64 s] w fun e w'=>e= .returned (.int .i64 (s+4*(l.length:Int)))∧Below w.heap.size w w':=by
 have HA:=hide ha;clear ha;subst hn;go_enter Try.func30,Try.ntmps30
 go_wp2_with fail;go_loopw [1,5] (fun kk i wr=>∃k m:Nat,k≤l.length∧i= .int .i64 k∧kk= .int .i64 m∧m=s+4*k∧Below w.heap.size w wr) (fun _ i _=>l.length - (intOf i).toNat)
 case atStart=>exact Za19
 case round=>
  open Sa54 in exact Ya17
def mkReq (k:Nat):Rq:=⟨(k:Int),mark (k+1),(k:Int)+2,(k:Int)+3⟩
theorem GR.W.fourReq {w:World} {a:Option Addr} {g:Nat} {l:List Rq} (h:GR.W encRq 4 w a g l) (i:Nat) (hi:i < l.length):a=some ⟨g,0,none⟩∧g < w.heap.size∧(w.cell? ⟨g,i*4,none⟩=some (.int .i64 l[i].no)∧w.cell? ⟨g,i*4+1,none⟩=some (.string l[i].k)∧w.cell? ⟨g,i*4+2,none⟩=some (.int .i64 l[i].n)∧w.cell? ⟨g,i*4+3,none⟩=some (.int .i64 l[i].s))∧w.frozen? ⟨g,i*4,none⟩=false∧w.frozen? ⟨g,i*4+1,none⟩=false∧w.frozen? ⟨g,i*4+2,none⟩=false∧w.frozen? ⟨g,i*4+3,none⟩=false:=by
 exact Za8
theorem markReqG (a:Option Addr) (g c s:Nat) (l:List Rq) (w:World) (hs0:0 < s) (hs1:s≤4000000000000) (hl:l.length≤1048600) (ha:GR.W encRq 4 w a g l):
 Calls Try.prog 27 #[.slice a l.length c,.int .i64 s] w fun e w'=>e= .returned (.int .i64 (s+4*(l.length:Int)))∧GR.W encRq 4 w' a g (mks mkReq 4 s l l.length)∧KeepsL (fp g l) w w':=by
 have HA:=hide ha;clear ha;go_enter Try.func27,Try.ntmps27
 go_wp2_with fail;go_loopw [1,5] (fun kk i wr=>∃k m:Nat,k≤l.length∧i= .int .i64 k∧kk= .int .i64 m∧m=s+4*k∧GR.W encRq 4 wr a g (mks mkReq 4 s l k)∧KeepsL (fp g l) w wr) (fun _ i _=>l.length - (intOf i).toNat)
 case atStart=>exact Za13
 case round=>
  open Sa48 in exact Ya16
theorem heldReqG (a:Option Addr) (g c n s:Nat) (l:List Rq) (w:World) (hn:n=l.length) (hs0:0 < s) (hs1:s≤4000000000000) (hl:l.length≤1048600) (ha:GR.W encRq 4 w a g (mks mkReq 4 s l l.length)):
 Calls Try.prog 32 #[.slice a n c,.int .i64 s] w fun e w'=>e= .returned (.int .i64 (s+4*(l.length:Int)))∧Below w.heap.size w w':=by
 have HA:=hide ha;clear ha;subst hn;go_enter Try.func32,Try.ntmps32
 go_wp2_with fail;go_loopw [1,5] (fun kk i wr=>∃k m:Nat,k≤l.length∧i= .int .i64 k∧kk= .int .i64 m∧m=s+4*k∧Below w.heap.size w wr) (fun _ i _=>l.length - (intOf i).toNat)
 case atStart=>exact Za19
 case round=>
  open Sa53 in exact Ya17
def mkInt (k:Nat):Int:=k
theorem GR.W.one {w:World} {a:Option Addr} {g:Nat} {l:List Int} (h:GR.W encNum 1 w a g l) (i:Nat) (hi:i < l.length):a=some ⟨g,0,none⟩∧g < w.heap.size∧w.cell? ⟨g,i,none⟩=some (.int .i64 l[i])∧w.frozen? ⟨g,i,none⟩=false:=by
 obtain⟨e,hg,hc⟩:=h i hi;exact⟨e,hg,by simpa using(hc 0 (by omega)).1,by simpa using(hc 0 (by omega)).2⟩
theorem markIntG (a:Option Addr) (g c s:Nat) (l:List Int) (w:World) (hs0:0 < s) (hs1:s≤4000000000000) (hl:l.length≤1048600) (ha:GR.W encNum 1 w a g l):
 Calls Try.prog 23 #[.slice a l.length c,.int .i64 s] w fun e w'=>e= .returned (.int .i64 (s+(l.length:Int)))∧GR.W encNum 1 w' a g (mks mkInt 1 s l l.length)∧KeepsL (fp g l) w w':=by
 have HA:=hide ha;clear ha;go_enter Try.func23,Try.ntmps23
 go_wp2_with fail;go_loopw [1,5] (fun kk i wr=>∃k m:Nat,k≤l.length∧i= .int .i64 k∧kk= .int .i64 m∧m=s+1*k∧GR.W encNum 1 wr a g (mks mkInt 1 s l k)∧KeepsL (fp g l) w wr) (fun _ i _=>l.length - (intOf i).toNat)
 case atStart=>exact Za13
 case round=>
  open Sa47 in exact Ya16
theorem heldIntG (a:Option Addr) (g c n s:Nat) (l:List Int) (w:World) (hn:n=l.length) (hs0:0 < s) (hs1:s≤4000000000000) (hl:l.length≤1048600) (ha:GR.W encNum 1 w a g (mks mkInt 1 s l l.length)):
 Calls Try.prog 28 #[.slice a n c,.int .i64 s] w fun e w'=>e= .returned (.int .i64 (s+(l.length:Int)))∧Below w.heap.size w w':=by
 have HA:=hide ha;clear ha;subst hn;go_enter Try.func28,Try.ntmps28
 go_wp2_with fail;go_loopw [1,5] (fun kk i wr=>∃k m:Nat,k≤l.length∧i= .int .i64 k∧kk= .int .i64 m∧m=s+1*k∧Below w.heap.size w wr) (fun _ i _=>l.length - (intOf i).toNat)
 case atStart=>exact Za19
 case round=>
  open Sa52 in exact Ya17
namespace Mth
def nnode (id par:Int) (kids fs:List Int):Nd:=⟨id,par,kids,1,[],[],fs.map (fun x=>⟨x,1,[]⟩),0,[]⟩
def zeroNd:Nd:=⟨0,0,[],0,[],[],[],0,[]⟩
def newN (id par:Int) (kids:List Int):Nd×Bool:=if placeB (nnode id par kids []) then(nnode id par kids (srt (nbrs (nnode id par kids []))),true) else(zeroNd,false)
theorem place_new (id par:Int) (kids fs:List Int):placeB (nnode id par kids fs)=placeB (nnode id par kids []):=rfl
theorem nbrs_new (id par:Int) (kids fs:List Int):nbrs (nnode id par kids fs)=nbrs (nnode id par kids []):=rfl
theorem near_new (id par:Int) (kids fs:List Int):nearB (nnode id par kids fs)=nearB (nnode id par kids []):=rfl
theorem ok_new (id par:Int) (kids fs:List Int) (h:placeB (nnode id par kids [])=true) (hf:fs=srt (nbrs (nnode id par kids []))):ndOk (nnode id par kids fs)=true:=by
 have hp:placeB (nnode id par kids fs)=true:=h
 have hm:(nnode id par kids fs).seen.map (·.f)=srt (nbrs (nnode id par kids fs)):=by
  rw [nbrs_new,←hf];simp[nnode,Function.comp_def]
 have ha:(nnode id par kids fs).seen.all snB=true:=by
  rw [List.all_eq_true];intro s hs;obtain⟨x,_,rfl⟩:=List.mem_map.1 hs;rfl
 unfold ndOk;rw [hp,told_eq hp,decide_eq_true hm,ha];rfl
theorem ok_not (id par:Int) (kids fs:List Int) (h:placeB (nnode id par kids [])=false):ndOk (nnode id par kids fs)=false:=by
 unfold ndOk;rw [place_new,h];rfl
def nearUp (n:Nd) (k:Nat):List Int:=(upTo k).filter (nearB n)
theorem upTo_succ (k:Nat):upTo (k+1)=upTo k++[(k:Int)]:=by
 unfold upTo;rw [List.range_succ,List.map_append];rfl
theorem nearUp_succ (n:Nd) (k:Nat):nearUp n (k+1)=if nearB n k then nearUp n k++[(k:Int)] else nearUp n k:=by
 unfold nearUp;rw [upTo_succ,List.filter_append,List.filter_cons];split<;>simp
theorem near_all {n:Nd} (h:placeB n=true):nearUp n 30=srt (nbrs n):=by
 have hk:=place_kids h
 have hp:n.par≤29:=by
  exact Za39
 refine(asc_eq _ _ (srt_asc (nbrs_nodup h)) ((upTo_asc 30).sublist List.filter_sublist) ?_ ?_).symm
 ·intro x hx;rw [srt_mem] at hx;(try unfold nearUp)
  rw [List.mem_filter];refine⟨?_,(near_iff h x).2 hx⟩;rw [upTo_mem];unfold nbrs at hx;rcases List.mem_append.1 hx with hx|hx
  ·have:=hk.1 x hx;unfold kidB ndB at this;simp only[Bool.and_eq_true,decide_eq_true_eq] at this;omega
  ·split at hx
   ·simp at hx
   ·have:x=n.par:=by simpa using hx
    omega
 ·refine asc_le _ _ ((upTo_asc 30).sublist List.filter_sublist) (srt_asc (nbrs_nodup h)) ?_;intro x hx;(try unfold nearUp at hx)
  rw [List.mem_filter] at hx;rw [srt_mem];exact(near_iff h x).1 hx.2
theorem new_yes {id par:Int} {kids fs:List Int} (h:placeB (nnode id par kids [])=true) (hf:fs=srt (nbrs (nnode id par kids []))):newN id par kids=(nnode id par kids fs,true):=by
 unfold newN;rw [if_pos h,hf]
theorem new_no {id par:Int} {kids:List Int} (h:placeB (nnode id par kids [])=false):newN id par kids=(zeroNd,false):=by
 unfold newN;rw [if_neg (by rw [h];simp)]
end Mth
def r3of (x:Int):R3:=⟨x,1,.slice none 0 0⟩
abbrev nnc (id par:Int) (kv v:Value):Array Value:=#[.int .i64 id,.int .i64 par,kv,.int .i64 1,.slice none 0 0,.slice none 0 0,v,.int .i64 0,.slice none 0 0]
structure NN (w2 wr:World) (nb:Nat) (id par:Int) (kv v:Value) (fs:List Int):Prop where
 keep:KeepsL [nb] w2 wr
 blk:wr.heap[nb]?=some (.cells (nnc id par kv v) 42 (0,0))
 own:wr.ownsRow w2.heap.size 58 3 v fs.length (GR.flat encR3 (fs.map r3of))
 lt:nb < w2.heap.size
theorem NN.step {w2 wr w':World} {nb:Nat} {id par:Int} {kv v:Value} {fs:List Int} (h:NN w2 wr nb id par kv v fs) (hb:Below wr.heap.size wr w'):NN w2 w' nb id par kv v fs:=
 ⟨h.keep.trans (KeepsL.of_below hb),obj_step h.blk hb,GR.own_below h.own hb,h.lt⟩
theorem NN.app {w2 wr w6:World} {nb:Nat} {id par:Int} {kv v v':Value} {fs:List Int} {o:Obj} (h:NN w2 wr nb id par kv v fs) (x:Int)
 (hown:w6.ownsRow w2.heap.size 58 3 v' (fs.length+1) (GR.flat encR3 (fs.map r3of)++encR3 (r3of x))) (hg:(wr.alloc o).grownBy w6 v.ownBlock):
 NN w2 (w6.setCell ⟨nb,6,none⟩ v') nb id par kv v' (fs++[x]):=by
 have hvb:∀k,v.ownBlock=some k→w2.heap.size≤k:=fun k hk=>(h.own.lt k hk).1
 have hlt:=h.lt;have hsz:=h.keep.size
 have hblk6:w6.heap[nb]?=some (.cells (nnc id par kv v) 42 (0,0)):=by
  rw [hg.block nb (by simp;omega) (fun e=>by have:=hvb nb e.symm;omega),Below.heap_alloc _ _ _ (by omega)];exact h.blk
 have hne:∀k,v'.ownBlock=some k→k≠nb:=fun k hk=>by have:=(hown.lt k hk).1;omega
 refine⟨?_,?_,?_,hlt⟩
 ·refine⟨hg.os.trans h.keep.os,hg.tape.trans h.keep.tape,hg.output.trans h.keep.output,?_,fun k hk hkn=>?_⟩
  ·have:=hg.size;simp[World.setCell] at this ⊢;omega
  ·have hkn':k≠nb:=by simpa using hkn
   rw [Below.heap_setCell _ _ _ _ hkn',hg.block k (by simp;omega) (fun e=>by have:=hvb k e.symm;omega),Below.heap_alloc _ _ _ (by omega)];exact h.keep.block k hk hkn
 ·exact blk_setO hblk6 6 v'
 ·have e1:(fs++[x]).length=fs.length+1:=by simp
  have e2:GR.flat encR3 ((fs++[x]).map r3of)=GR.flat encR3 (fs.map r3of)++encR3 (r3of x):=by rw [List.map_append,GR.flat_append];simp[GR.flat]
  rw [e1,e2];refine hown.kept (row:=some nb) ⟨rfl,rfl,rfl,by simp[World.setCell],fun k _ hk=>Below.heap_setCell _ _ _ _ (fun e=>hk (by rw [e]))⟩ ?_;cases hv:v'.ownBlock with
  |none=>exact .inl rfl
  |some k=>exact .inr (fun e=>hne k hv (by injection e))
theorem r3_one (x:Int):∀u∈encR3 (r3of x),u.oneCell'=true:=by
 intro u hu;simp only[encR3,r3of,List.mem_cons,List.not_mem_nil,or_false] at hu;rcases hu with rfl|rfl|rfl<;>rfl
theorem SeenW.new {w:World} {B:Nat} {v:Value} {fs:List Int} (h:w.ownsRow B 58 3 v fs.length (GR.flat encR3 (fs.map r3of))):∃a c g,v= .slice a fs.length c∧SeenW w a g (fun _=>0) (fs.map (fun x=>⟨x,1,[]⟩))∧(∀x∈fp g fs,B≤x∧x < w.heap.size):=by
 have h':w.ownsRow B 58 3 v (fs.map r3of).length (GR.flat encR3 (fs.map r3of)):=by rw [List.length_map];exact h
 obtain⟨a,c,g,e,hW,hr,_⟩:=GR.W.of_own encR3_length h';refine⟨a,c,g,by rw [e,List.length_map],⟨fs.map r3of,hW,by simp,fun i hi=>?_⟩,fun x hx=>hr x ?_⟩
 ·refine⟨none,0,?_,?_⟩
  ·have hi':i < fs.length:=by simpa using hi
   simp[hi',r3of]
  ·simp only[List.getElem_map];exact GR.W.nil
 ·have:=of_fp hx;rw [this.1];exact fp_mem (by simpa using this.2)
theorem fpI_new (I:Nat→Nat) (fs:List Int):fpI I (fs.map (fun x=>(⟨x,1,[]⟩:Sn)))=[]:=by
 apply List.eq_nil_iff_forall_not_mem.2
 intro x hx;obtain⟨i,hi,_,hp⟩:=of_fpI hx;simp at hp
theorem NodeW.new {w:World} {B B2:Nat} {id par:Int} {kv v:Value} {kids fs:List Int} (hk:w.ownsRow B 3 1 kv kids.length (GR.flat encNum kids)) (hkl:∀x,kv.ownBlock=some x→x < B2) (hs:w.ownsRow B2 58 3 v fs.length (GR.flat encR3 (fs.map r3of))) (hB:B≤B2):
 ∃A G,Value.agg (nnc id par kv v)=ndv (nnode id par kids fs) A∧NodeW w A G (nnode id par kids fs)∧G.Sep (nnode id par kids fs) B w.heap.size:=by
 obtain⟨a1,c1,g1,rfl,hW1,hr1,ho1⟩:=GR.W.of_own encNum_length hk;obtain⟨a2,c2,g2,rfl,hW2,hr2⟩:=SeenW.new hs
 have hall:∀x,x∈Blks.all ⟨g1,0,0,g2,0,fun _=>0⟩ (nnode id par kids fs)→x∈fp g1 kids∨x∈fp g2 fs:=fun x hx=>by
  rcases Blks.mem_all.1 hx with h|h|h|h|h|h
  ·exact .inl h
  ·simp[nnode,fp] at h
  ·simp[nnode,fp] at h
  ·right
   rw [fp_len (l':=fs) (by simp[nnode])] at h;exact h
  ·simp only[nnode] at h;rw [fpI_new] at h;simp at h
  ·simp[nnode,fp] at h
 refine⟨⟨a1,none,none,a2,none,c1,0,0,c2,0⟩,⟨g1,0,0,g2,0,fun _=>0⟩,by simp[nnc,ndv,ndc,nnode],⟨hW1,GR.W.nil,GR.W.nil,hW2,GR.W.nil⟩,⟨?_,fun x hx=>?_⟩⟩
 ·have e:Blks.all ⟨g1,0,0,g2,0,fun _=>0⟩ (nnode id par kids fs)=fp g1 kids++fp g2 fs:=by
   unfold Blks.all;simp only[nnode];rw [fpI_new,fp_len (l:=fs.map _) (l':=fs) (by simp)];simp[fp]
  rw [e,List.nodup_append];refine⟨fp_nodup _ _,fp_nodup _ _,fun a ha b hb=>?_⟩;have h1:=hkl a (ho1 a ha);have h2:=(hr2 b hb).1;omega
 ·rcases hall x hx with h|h
  ·exact hr1 x h
  ·have:=hr2 x h;omega
theorem NodeW.zero {w:World}:NodeW w ⟨none,none,none,none,none,0,0,0,0,0⟩ ⟨0,0,0,0,0,fun _=>0⟩ zeroNd∧Blks.Sep ⟨0,0,0,0,0,fun _=>0⟩ zeroNd w.heap.size w.heap.size:=
 ⟨⟨GR.W.nil,GR.W.nil,GR.W.nil,⟨[],GR.W.nil,rfl,fun i hi=>by simp[zeroNd] at hi⟩,GR.W.nil⟩,⟨by simp[Blks.all,zeroNd,fp,fpI],fun x hx=>by simp[Blks.all,zeroNd,fp,fpI] at hx⟩⟩
end Go.Proofs.Ytheiblbhlmaphaa
