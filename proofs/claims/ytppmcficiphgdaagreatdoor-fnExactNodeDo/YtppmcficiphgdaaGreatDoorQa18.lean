/-
  NdDel, NdRel, NdKeep.
-/
import Derived.Test.YtppmcficiphgdaaGreatDoorQa1
import Derived.Test.YtppmcficiphgdaaGreatDoorQa17
import Derived.Test.YtppmcficiphgdaaGreatDoorQaZ3
import Derived.Test.YtppmcficiphgdaaGreatDoorQa15
import Derived.Test.YtppmcficiphgdaaGreatDoorQa13
import Derived.Laws.OwnMore
namespace Go.Proofs.YtppmcficiphgdaaGreatDoor
set_option maxHeartbeats 4000000
set_option maxRecDepth 100000
open Go.RowKit
open Mth
abbrev zQ:List Value:=[.int .i64 0,.string ⟨#[]⟩,.int .i64 0,.int .i64 0]
theorem run_clear_one (w:World) (ty:TypeId) (g o c:Nat) (cur:Array Value) (hg:w.heap[g]?=some (.cells cur 49 (0,0))) (hfit:o+4≤cur.size):
 (Builtin.clear_ #[28] ty #[.slice (some ⟨g,o,none⟩) 1 c]).run Tryz.prog w= .ok (.tuple #[]) (w.setRow g (cur.toList.take o++zQ++cur.toList.drop (o+4)).toArray):=by
 have hst:=run_storeCells_at Tryz.prog g o 49 zQ 0 cur w hg (by simpa using hfit) (by intro u hu;simp only[zQ,List.mem_cons,List.not_mem_nil,or_false] at hu;rcases hu with rfl|rfl|rfl|rfl<;>rfl);have hzc:(Builtin.zeroCells (Value.cells (.agg #[.int .i64 0,.string ⟨#[]⟩,.int .i64 0,.int .i64 0])) 1).toList=zQ:=by kernel_rfl
 have h1:(Builtin.clear_ #[28] ty #[.slice (some ⟨g,o,none⟩) 1 c]).run Tryz.prog w=((storeCells ⟨g,o,none⟩ zQ).run Tryz.prog w).andThen fun _ w'=> .ok (.tuple #[]) w':=by
  simp[Builtin.clear_,run_underlying Tryz.underlying28];rw [hzc]
 rw [h1,hst];rfl
def rowC (cur:List Value) (l:List Rq):List Value:=cur.take (0*4)++GR.flat encRq (l.drop 1)++cur.drop (0*4+(GR.flat encRq (l.drop 1)).length)
def rowD (cur:List Value) (l:List Rq):List Value:=(rowC cur l).take ((l.length - 1)*4)++zQ++(rowC cur l).drop ((l.length - 1)*4+4)
theorem rowC_len (cur:List Value) (l:List Rq) (h2:2≤l.length) (hc:l.length*4≤cur.length):(rowC cur l).length=cur.length:=by
 unfold rowC;exact Za96
theorem rowD_len (cur:List Value) (l:List Rq) (h2:2≤l.length) (hc:l.length*4≤cur.length):(rowD cur l).length=cur.length:=by
 have h1:=rowC_len cur l h2 hc;unfold rowD;exact Za103
theorem rowD_take (cur:List Value) (l:List Rq) (h2:2≤l.length) (hc:l.length*4≤cur.length):(rowD cur l).take ((l.length - 1)*4)=GR.flat encRq (l.drop 1):=by
 have h1:=rowC_len cur l h2 hc;have hd:(GR.flat encRq (l.drop 1)).length=(l.length - 1)*4:=by rw [flatQ_len,List.length_drop]
 unfold rowD;rw [List.append_assoc,List.take_append_of_le_length (by rw [List.length_take,h1];omega),List.take_take,Nat.min_self];unfold rowC;rw [Nat.zero_mul,List.take_zero,List.nil_append,←hd,List.take_left]
theorem delReq_at (g cap:Nat) (l:List Rq) (w:World) (cur:Array Value) (h2:2≤l.length) (hl:l.length≤1000) (hnc:l.length≤cap) (hcm:cap≤maxLen) (hblk:w.heap[g]?=some (.cells cur 49 (0,0))) (hcs:cur.size=cap*4) (htake:cur.toList.take (l.length*4)=GR.flat encRq l):
 Calls Tryz.prog 189 #[.slice (some ⟨g,0,none⟩) l.length cap,.int .i64 0,.int .i64 1] w fun e w'=>
  e= .returned (.slice (some ⟨g,0,none⟩) (l.length - 1) cap)∧w'.heap[g]?=some (.cells (rowD cur.toList l).toArray 49 (0,0))∧w.grownBy w' (some g):=by
 obtain⟨i0,hi0,hz0,hz1,hz2⟩:=info_parts infoRq;have hcsl:cur.toList.length=cap*4:=by rw [show cur.toList.length=cur.size from Array.length_toList,hcs]
 have hdl:(GR.flat encRq (l.drop 1)).length=(l.length - 1)*4:=by rw [flatQ_len,List.length_drop]
 have hap:∀W:World,W.heap[g]?=some (.cells cur 49 (0,0))→∀ty dc,(Builtin.append_ #[28,28] ty #[.slice (some ⟨g,0,none⟩) 0 cap,.slice (some ⟨g,4,none⟩) (l.length - 1) dc]).run Tryz.prog W= .ok (.slice (some ⟨g,0,none⟩) (l.length - 1) cap) (W.setRow g (rowC cur.toList l).toArray):=fun W hW ty dc=>by
  have h:=run_append_room (P:=Tryz.prog) W 28 ty 49 i0 Tryz.underlying28 hi0 g 0 cap cur hW ⟨g,4,none⟩ (l.length - 1) dc (GR.flat encRq (l.drop 1)) (by rw [hz1,hdl])
   (fun j v hj=>by
    rw [Addr.add_lit]
    have h1:(GR.flat encRq l)[4+j]?=some v:=by
     have:=(flatQ_cut l 1 (by omega)).2;rw [←List.getElem?_drop];rw [show(4:Nat)=1*4 from rfl,this];exact hj
    rw [←htake,List.getElem?_take] at h1
    split at h1
    ·have h2:W.cell? ⟨g,4+j,none⟩=cur[4+j]?:=cell_of_row W g (4+j) cur 49 (0,0) hW;rw [h2,←Array.getElem?_toList];exact h1
    ·cases h1)
   (fun v hv=>flatRq_one _ v hv) (by omega) (by rw [hz1,hdl,hcs];omega)
  rw [hz1,Nat.zero_add] at h
  exact h
 have hcl:∀W:World,W.heap[g]?=some (.cells cur 49 (0,0))→∀ty c,(Builtin.clear_ #[28] ty #[.slice (some ⟨g,(l.length - 1)*4,none⟩) 1 c]).run Tryz.prog (W.setRow g (rowC cur.toList l).toArray)= .ok (.tuple #[]) ((W.setRow g (rowC cur.toList l).toArray).setRow g (rowD cur.toList l).toArray):=fun W hW ty c=>by
  have hb:(W.setRow g (rowC cur.toList l).toArray).heap[g]?=some (.cells (rowC cur.toList l).toArray 49 (0,0)):=setRow_heap W g cur _ 49 _ hW
  exact run_clear_one _ ty g ((l.length - 1)*4) c (rowC cur.toList l).toArray hb (by rw [List.size_toArray,rowC_len _ _ h2 (by omega),hcsl];omega)
 have HFIN:=hide (show∀W:World,Ge w W→((W.setRow g (rowC cur.toList l).toArray).setRow g (rowD cur.toList l).toArray).heap[g]?=some (.cells (rowD cur.toList l).toArray 49 (0,0))∧w.grownBy ((W.setRow g (rowC cur.toList l).toArray).setRow g (rowD cur.toList l).toArray) (some g) from fun W hW=>
  ⟨setRow_heap _ g (rowC cur.toList l).toArray _ 49 _ (setRow_heap W g cur _ 49 _ (obj_step hblk hW)),⟨hW.os,hW.tape,hW.output,by have:=hW.size;simpa using this,fun k hl hk=>((setRow_other _ g k _ (fun e=>hk (by rw [e]))).trans (setRow_other W g k _ (fun e=>hk (by rw [e])))).trans (hW.block k hl)⟩⟩)
 have HBLK:=hide hblk;have h1eq:l.length - (l.length - 1)=1:=by omega
 have mixed:Tryz.prog.follows .mixedOrders=true:=by kernel_rfl
 have hc63:cap≤9223372036854775807:=by unfold maxLen at hcm;omega
 have hb1:(1:Int)≤(l.length:Int):=by omega
 have hb2:¬(cap=1):=by omega
 have hb3:¬(l.length=0):=by omega
 have hnn:(l.length:Int) - 1=((l.length - 1:Nat):Int):=by omega
 clear hcs hblk htake hcm hcsl hdl hi0 hz0 hz1 hz2;go_enter Tryz.func189,Tryz.ntmps189
 go_wp2_with fail;refine wp_region_mixE 6 (by kernel_rfl) ?_;show wpMixE _ _ _ _ _ 8 (Array.replicate 8 false) _ _
 refine tk [0,1,2,3,4,5] ?_;iterate 6 (refine tkE (fun K hK=>?_);go_simp;refine hK _ ?_;clear hK K)
 refine tkN ?_;refine wpMixE_leave (by kernel_rfl) (fun x hx=>?_);have hap2:=hap x (obj_step HBLK hx);have hcl2:=hcl x (obj_step HBLK hx);have HF2:=hide (HFIN x hx);clear hap hcl hx HFIN HBLK;refine wpAny_one 6 rfl (by kernel_rfl) (by rfl) ?_;refine Lib.wp_append_run x (.tmp 22) (.tmp 25) 28 28 rfl (.slice (some ⟨g,0,none⟩) 0 cap) (.slice (some ⟨g,4,none⟩) (l.length - 1) (cap - 1)) (by simp[Act.eval]) (by simp[Act.eval]) _ _ (hap2 _ _) ?_;refine wpAny_one 7 rfl (by kernel_rfl) (by rfl) ?_;go_simp;refine wpAny_done (by kernel_rfl) ?_;go_simp;go_wp2_with (simp only[h1eq,hcl2])
 go_ret;exact⟨rfl,HF2.1,HF2.2⟩
theorem delReq (B:Nat) (a:Option Addr) (cap:Nat) (l:List Rq) (w:World) (h2:2≤l.length) (hl:l.length≤1000) (ho:w.ownsRow B 49 4 (.slice a l.length cap) l.length (GR.flat encRq l)):
 Calls Tryz.prog 189 #[.slice a l.length cap,.int .i64 0,.int .i64 1] w (GivesQ w B (.slice a l.length cap) (l.drop 1)):=by
 have hlen:(l.drop 1).length=l.length - 1:=by rw [List.length_drop]
 open Sa277 in exact Ya75
set_option maxHeartbeats 8000000
theorem settleR {w0 w x:World} {wb:Nat} {n:Nd} {A:Ads} {G:Blks} {c:Nat→Nat} {v:Value} {L:List Mg} (h:WK w0 w wb n A G c v L) {r:List Pu×Bool} {a:Option Addr} {cp g:Nat} (hb:Below w.heap.size w x) (hg:w.heap.size≤g) (hp:PuW x a g r.1):
 Calls Tryz.prog 158 #[.pointer (some ⟨wb,0,none⟩),.slice a r.1.length cp,.bool r.2] x fun e w'=>e= .returned (.bool r.2)∧∃A' G' c',WK w0 w' wb (if r.2=true then setPu n r.1 else n) A' G' c' v L∧A'.r=A.r:=by
 obtain⟨l,b⟩:=r;cases b with
 |false=>
  refine(settle_no wb a l.length cp x).mono ?_
  rintro e w' ⟨rfl,rfl⟩
  exact⟨rfl,A,G,c,h.step hb,rfl⟩
 |true=>
  refine(settle_yes wb n A v a l.length cp x (h.step hb).blk).mono ?_
  rintro e w' ⟨rfl,rfl⟩
  exact⟨rfl,_,_,_,h.setPu hb hp (fun y hy=>by rw [(of_fp hy).1];exact hg),rfl⟩
theorem flat_rel (z:Int):∀(l:List Rq) (i:Nat) (hi:i < l.length),(GR.flat encRq l).set (i*4+3) (.int .i64 z)=GR.flat encRq (l.set i ⟨l[i].no,l[i].k,l[i].n,z⟩):=by
 intro l;induction l with
 |nil=>intro i hi;simp at hi
 |cons x r ih=>
  intro i hi
  cases i with
  |zero=>rfl
  |succ i=>
   have hi2:i < r.length:=by simpa using hi
   have h1:=ih i hi2
   show(encRq x++GR.flat encRq r).set ((i+1)*4+3) (.int .i64 z)=encRq x++GR.flat encRq (r.set i ⟨r[i].no,r[i].k,r[i].n,z⟩)
   rw [←h1,List.set_append_right _ _ (by show 4≤_;omega)]
   congr 2
   show(i+1)*4+3 - 4=_
   omega
theorem WK.reqRow {w0 w:World} {wb:Nat} {n:Nd} {A:Ads} {G:Blks} {c:Nat→Nat} {v:Value} {L:List Mg} (h:WK w0 w wb n A G c v L) (i:Nat) (hi:i < n.reqs.length):∃g,A.r=some ⟨g,0,none⟩∧g≠wb∧g < w.heap.size∧(w.cell? ⟨g,i*4,none⟩=some (.int .i64 n.reqs[i].no)∧w.cell? ⟨g,i*4+1,none⟩=some (.string n.reqs[i].k)∧w.cell? ⟨g,i*4+2,none⟩=some (.int .i64 n.reqs[i].n)∧w.cell? ⟨g,i*4+3,none⟩=some (.int .i64 n.reqs[i].s))∧w.frozen? ⟨g,i*4+3,none⟩=false:=by
 obtain⟨a,cp,g,he,hW,hlt,hown⟩:=GR.W.of_own encRq_length h.no.r;have hmem:g∈fp g n.reqs:=fp_mem (by omega);obtain⟨ea,hg,hc,_,_,_,hf⟩:=GR.W.fourReq hW i hi;have hA:A.r=a:=by cases he;rfl
 refine⟨g,by rw [hA,ea],?_,hg,hc,hf⟩;intro hw;have h6:=h.no.cr g (hown g hmem);rw [hw,h.cw] at h6;cases h6
theorem WK.reqSet {w0 w:World} {wb:Nat} {n:Nd} {A:Ads} {G:Blks} {c:Nat→Nat} {v:Value} {L:List Mg} (h:WK w0 w wb n A G c v L) (i:Nat) (hi:i < n.reqs.length) (g:Nat) (hg:A.r=some ⟨g,0,none⟩):WK w0 (w.setCell ⟨g,i*4+3,none⟩ (.int .i64 2)) wb (setReqs n (n.reqs.set i (relQ n.reqs[i]))) A G c v L:=by
 have ho:=h.no.r;have hcr:=h.no.cr;rw [hg] at ho hcr;have hc6:c g=6:=hcr g rfl;have hk:KC c 6 w (w.setCell ⟨g,i*4+3,none⟩ (.int .i64 2)):=KC.set hc6;have hno:=h.no;have hst:=(ho.stored (i*4+3) (.int .i64 2)).1;rw [flat_rel 2 n.reqs i hi] at hst;have hlen:(n.reqs.set i (relQ n.reqs[i])).length=n.reqs.length:=by simp
 refine⟨hk.below h.keep hno.lo (by omega) h.keep.size,?_,⟨hk.w hno.k hno.ck (by omega),hk.w hno.p hno.cp (by omega),hk.own hno.o hno.co (by omega),hk.seen hno.s hno.c4 hno.ci (by omega) (by omega),?_,hno.lo,hno.ck,hno.cp,hno.co,hno.c4,hno.ci,?_,hno.ni⟩,hk.own h.m h.cm (by omega),h.cm,h.cw⟩
 ·have:=hk.obj h.blk (by rw [h.cw];omega);rw [this];show some (Obj.cells #[_,_,_,_,_,_,_,_,.slice A.r n.reqs.length A.cr,_] _ _)=some (Obj.cells #[_,_,_,_,_,_,_,_,.slice A.r (n.reqs.set i (relQ n.reqs[i])).length A.cr,_] _ _)
  rw [hlen];rfl
 ·show(w.setCell _ _).ownsRow _ _ _ (.slice A.r (n.reqs.set i (relQ n.reqs[i])).length A.cr) (n.reqs.set i (relQ n.reqs[i])).length (GR.flat encRq (n.reqs.set i (relQ n.reqs[i])))
  rw [hlen,hg];exact hst
 ·show∀x,(Value.slice A.r (n.reqs.set i (relQ n.reqs[i])).length A.cr).ownBlock=some x→_
  rw [hlen];exact h.no.cr
theorem wkRel_stale (w0 w:World) (wb:Nat) (n:Nd) (A:Ads) (G:Blks) (c:Nat→Nat) (v:Value) (L:List Mg) (o:Op5) (hc:o.no≤n.old) (h:WK w0 w wb n A G c v L):Calls Tryz.prog 108 #[.pointer (some ⟨wb,0,none⟩),opw o] w fun e w'=>e= .returned (.int .i64 (releaseN n o.no).2)∧∃A' G' c',WK w0 w' wb (releaseN n o.no).1 A' G' c' v L:=by
 have hR:releaseN n o.no=(n,2):=if_pos hc;rw [hR];have hd:decide (o.no≤n.old)=true:=decide_eq_true hc;clear hR;open Sa12 in exact Ya2
theorem wkRel_none (w0 w:World) (wb:Nat) (n:Nd) (A:Ads) (G:Blks) (c:Nat→Nat) (v:Value) (L:List Mg) (o:Op5) (hok:reqsB n=true) (h0:0≤o.no) (h1:o.no≤1000000000) (hc:¬o.no≤n.old) (hf:reqF n.reqs o.no=false) (h:WK w0 w wb n A G c v L):Calls Tryz.prog 108 #[.pointer (some ⟨wb,0,none⟩),opw o] w fun e w'=>e= .returned (.int .i64 (releaseN n o.no).2)∧∃A' G' c',WK w0 w' wb (releaseN n o.no).1 A' G' c' v L:=by
 have hR:releaseN n o.no=(n,1):=by unfold releaseN;rw [if_neg hc,if_pos hf]
 rw [hR];have hd:decide (o.no≤n.old)=false:=decide_eq_false hc;have HRA:=hide (fun w1 (hw:WK w0 w1 wb n A G c v L)=>wkReqAt w0 w1 wb n A G c v L o.no hok h0 h1 hw);rw [hf] at HRA;clear hR h0 h1 hok hf;open Sa11 in exact Ya2
theorem wkRel_refused (w0 w:World) (wb:Nat) (n:Nd) (A:Ads) (G:Blks) (c:Nat→Nat) (v:Value) (L:List Mg) (o:Op5) (hok:reqsB n=true) (h0:0≤o.no) (h1:o.no≤1000000000) (hc:¬o.no≤n.old) (hf:reqF n.reqs o.no=true) (hs:(n.reqs.getD (reqI n.reqs o.no) default).s=1) (h:WK w0 w wb n A G c v L):Calls Tryz.prog 108 #[.pointer (some ⟨wb,0,none⟩),opw o] w fun e w'=>e= .returned (.int .i64 (releaseN n o.no).2)∧∃A' G' c',WK w0 w' wb (releaseN n o.no).1 A' G' c' v L:=by
 have hR:releaseN n o.no=(n,1):=by unfold releaseN;rw [if_neg hc,if_neg (by rw [hf];simp)];rw [if_pos hs]
 exact Za4
theorem wkRel_again (w0 w:World) (wb:Nat) (n:Nd) (A:Ads) (G:Blks) (c:Nat→Nat) (v:Value) (L:List Mg) (o:Op5) (hok:reqsB n=true) (h0:0≤o.no) (h1:o.no≤1000000000) (hc:¬o.no≤n.old) (hf:reqF n.reqs o.no=true) (hs:(n.reqs.getD (reqI n.reqs o.no) default).s=2) (h:WK w0 w wb n A G c v L):Calls Tryz.prog 108 #[.pointer (some ⟨wb,0,none⟩),opw o] w fun e w'=>e= .returned (.int .i64 (releaseN n o.no).2)∧∃A' G' c',WK w0 w' wb (releaseN n o.no).1 A' G' c' v L:=by
 have hR:releaseN n o.no=(n,0):=by unfold releaseN;rw [if_neg hc,if_neg (by rw [hf];simp)];rw [if_neg (by omega),if_pos hs]
 exact Za4
theorem wkRel_let (w0 w:World) (wb:Nat) (n:Nd) (A:Ads) (G:Blks) (c:Nat→Nat) (v:Value) (L:List Mg) (o:Op5) (E:Nat→Addr) (hz:NdSz n 1048576) (hok:reqsB n=true) (h0:0≤o.no) (h1:o.no≤1000000000) (hc:¬o.no≤n.old) (hf:reqF n.reqs o.no=true) (hs:(n.reqs.getD (reqI n.reqs o.no) default).s=0) (h:WK w0 w wb n A G c v L) (he:Errs w0 E):Calls Tryz.prog 108 #[.pointer (some ⟨wb,0,none⟩),opw o] w fun e w'=>e= .returned (.int .i64 (releaseN n o.no).2)∧∃A' G' c',WK w0 w' wb (releaseN n o.no).1 A' G' c' v L:=by
 have hR:releaseN n o.no=(if (addP n.pu (n.reqs.getD (reqI n.reqs o.no) default).k 0 1 (-1) (n.reqs.getD (reqI n.reqs o.no) default).n).2=true then
  (setReqs (setPu n (addP n.pu (n.reqs.getD (reqI n.reqs o.no) default).k 0 1 (-1) (n.reqs.getD (reqI n.reqs o.no) default).n).1) (n.reqs.set (reqI n.reqs o.no) (relQ (n.reqs.getD (reqI n.reqs o.no) default))),0) else(n,1)):=by
  unfold releaseN
  rw [if_neg hc,if_neg (by rw [hf];simp),if_neg (by omega),if_neg (by omega)]
 rw [hR];have hd:decide (o.no≤n.old)=false:=decide_eq_false hc;open Sa219 in exact Ya55
theorem wkRelease (w0 w:World) (wb:Nat) (n:Nd) (A:Ads) (G:Blks) (c:Nat→Nat) (v:Value) (L:List Mg) (o:Op5) (E:Nat→Addr) (hz:NdSz n 1048576) (hok:reqsB n=true) (h0:0≤o.no) (h1:o.no≤1000000000) (h:WK w0 w wb n A G c v L) (he:Errs w0 E):Calls Tryz.prog 108 #[.pointer (some ⟨wb,0,none⟩),opw o] w fun e w'=>e= .returned (.int .i64 (releaseN n o.no).2)∧∃A' G' c',WK w0 w' wb (releaseN n o.no).1 A' G' c' v L:=by
 by_cases hc:o.no≤n.old
 ·exact wkRel_stale w0 w wb n A G c v L o hc h
 cases hf:reqF n.reqs o.no with
 |false=>exact wkRel_none w0 w wb n A G c v L o hok h0 h1 hc hf h
 |true=>
  have hil:=((reqF_iff n.reqs o.no).1 hf).1
  have hgd:n.reqs.getD (reqI n.reqs o.no) default=n.reqs[reqI n.reqs o.no]:=by rw [List.getD_eq_getElem?_getD,List.getElem?_eq_getElem hil];rfl
  obtain⟨_,_,_,_,b1,b2⟩:=reqB_parts ((reqs_asc hok).2.2.1 _ (List.getElem_mem hil))
  rw [←hgd] at b1 b2
  by_cases s1:(n.reqs.getD (reqI n.reqs o.no) default).s=1
  ·exact wkRel_refused w0 w wb n A G c v L o hok h0 h1 hc hf s1 h
  by_cases s2:(n.reqs.getD (reqI n.reqs o.no) default).s=2
  ·exact wkRel_again w0 w wb n A G c v L o hok h0 h1 hc hf s2 h
  ·exact wkRel_let w0 w wb n A G c v L o E hz hok h0 h1 hc hf (by omega) h he
set_option maxHeartbeats 4000000
theorem WK.reqPut {w0 w w6:World} {wb:Nat} {n:Nd} {A:Ads} {G:Blks} {c:Nat→Nat} {v:Value} {L:List Mg} {a6:Option Addr} {c6:Nat} {l:List Rq} (h:WK w0 w wb n A G c v L)
 (hown:w6.ownsRow w0.heap.size 49 4 (.slice a6 l.length c6) l.length (GR.flat encRq l)) (hg:w.grownBy w6 (Value.slice A.r n.reqs.length A.cr).ownBlock) (hv:∀x,(Value.slice a6 l.length c6).ownBlock=some x→(Value.slice A.r n.reqs.length A.cr).ownBlock=some x∨w.heap.size≤x):
 w6.heap[wb]?=some (.cells (wkc n A v) 74 (0,0))∧WK w0 (w6.setCell ⟨wb,8,none⟩ (.slice a6 l.length c6)) wb (setReqs n l) ⟨A.k,A.p,A.o,A.s,a6,A.ck,A.cp,A.co,A.cs,c6⟩ G (newC w.heap.size 6 c) v L:=by
 have h1:=h.recol (c':=newC w.heap.size 6 c) (fun x hx=>newC_old hx);have hk1:KC (newC w.heap.size 6 c) 6 w w6:=KC.grown hg h1.no.cr;have hblk:=hk1.obj h1.blk (by rw [h1.cw];omega);have hkeep:=hk1.below h1.keep h1.no.lo (by omega) h1.keep.size;have hk2:KC (newC w.heap.size 6 c) 8 w6 (w6.setCell ⟨wb,8,none⟩ (.slice a6 l.length c6)):=KC.set h1.cw
 have hcr:∀x,(Value.slice a6 l.length c6).ownBlock=some x→newC w.heap.size 6 c x=6:=fun x hx=>by
  rcases hv x hx with hx'|hx'
  ·exact h1.no.cr x hx'
  ·exact newC_new hx'
 have hno:=h1.no;refine⟨hblk,hk2.below hkeep hno.lo (by omega) hkeep.size,?_,⟨?_,?_,?_,?_,?_,hno.lo,hno.ck,hno.cp,hno.co,hno.c4,hno.ci,hcr,hno.ni⟩,?_,h1.cm,h1.cw⟩
 ·exact blk_setO hblk 8 (.slice a6 l.length c6)
 ·exact hk2.w (hk1.w hno.k hno.ck (by omega)) hno.ck (by omega)
 ·exact hk2.w (hk1.w hno.p hno.cp (by omega)) hno.cp (by omega)
 ·exact hk2.own (hk1.own hno.o hno.co (by omega)) hno.co (by omega)
 ·exact Za100
 ·exact hk2.own hown hcr (by omega)
 ·exact hk2.own (hk1.own h1.m h1.cm (by omega)) h1.cm (by omega)
theorem WK.oldPut {w0 w:World} {wb:Nat} {n:Nd} {A:Ads} {G:Blks} {c:Nat→Nat} {v:Value} {L:List Mg} (h:WK w0 w wb n A G c v L) (y:Int):WK w0 (w.setCell ⟨wb,7,none⟩ (.int .i64 y)) wb (setOld n y) A G c v L:=by
 have hk2:KC c 8 w (w.setCell ⟨wb,7,none⟩ (.int .i64 y)):=KC.set h.cw;have hno:=h.no.kc hk2 (by omega);exact⟨hk2.below h.keep h.no.lo (by omega) h.keep.size,blk_setO h.blk 7 (.int .i64 y),⟨hno.k,hno.p,hno.o,hno.s,hno.r,hno.lo,hno.ck,hno.cp,hno.co,hno.c4,hno.ci,hno.cr,hno.ni⟩,hk2.own h.m h.cm (by omega),h.cm,h.cw⟩
def keepI (n:Nd) (q:Rq) (i:Nat):Nd:=if 30 < (insA n.reqs i q).length then setReqs (setOld n ((insA n.reqs i q).headD default).no) ((insA n.reqs i q).drop 1) else setReqs n (insA n.reqs i q)
theorem keepI_insQ (n:Nd) (q:Rq):keepI n q (reqI n.reqs q.no)=keepN n q:=by
 unfold keepI keepN;rw [show insA n.reqs (reqI n.reqs q.no) q=insQ n.reqs q from rfl,List.drop_one]
theorem wkKeep (w0 w:World) (wb:Nat) (n:Nd) (A:Ads) (G:Blks) (c:Nat→Nat) (v:Value) (L:List Mg) (q:Rq) (i:Nat) (hi:i≤n.reqs.length) (hr:n.reqs.length≤30) (h:WK w0 w wb n A G c v L):
 Calls Tryz.prog 162 #[.pointer (some ⟨wb,0,none⟩),.agg #[.int .i64 q.no,.string q.k,.int .i64 q.n,.int .i64 q.s],.int .i64 i] w fun e w'=>e= .returned (.tuple #[])∧∃A' G' c',WK w0 w' wb (keepI n q i) A' G' c' v L:=by
 have HW:=hide h;have HW1:=hide (h.step (below_one w (.cells #[.int .i64 q.no,.string q.k,.int .i64 q.n,.int .i64 q.s] 49)));have HP1:=hide (heap_alloc_new w (.cells #[.int .i64 q.no,.string q.k,.int .i64 q.n,.int .i64 q.s] 49));clear h;have hlen:=insA_len n.reqs i q hi;obtain⟨c0,c1,c2,c3,c4,c5,c6,c7,c8,c9⟩:=tenC HW1.blk;obtain⟨p0,p1,p2,p3⟩:=fourC HP1;have hwl:=obj_lt HW.blk;have hne:wb≠w.heap.size:=by omega
 go_enter Tryz.func162,Tryz.ntmps162
 go_upto_region 1 with fail;have y8:=cell_regrown c8;have z0:=cell_regrown p0;have z1:=cell_regrown p1;have z2:=cell_regrown p2;have z3:=cell_regrown p3;clear c0 c1 c2 c3 c4 c5 c6 c7 c8 c9 p0 p1 p2 p3;refine wp_region_anyG (by kernel_rfl) ?_;show wpAnyG _ _ _ _ 14 (Array.replicate 14 false) _ _
 open Sa181 in exact Ya43
end Go.Proofs.YtppmcficiphgdaaGreatDoor
