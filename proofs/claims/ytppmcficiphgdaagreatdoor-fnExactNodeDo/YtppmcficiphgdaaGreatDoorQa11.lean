/-
  PmRow, PmKey, PmShift, PmAdd, PmMove, PmOf, PuI2.
-/
import Derived.Test.YtppmcficiphgdaaGreatDoorQa10
import Derived.Test.YtppmcficiphgdaaGreatDoorQa2
import Derived.Test.YtppmcficiphgdaaGreatDoorQaZ3
import Derived.Laws.AppendOwn
import Derived.Laws.OwnMore
import Derived.Deep.AppendLies
import Derived.Deep.DeepCutAuto
import Derived.Deep.RegionHeld
import Derived.Deep.RegionLaw
import Derived.Deep.QuietTactic
import Derived.BigQuiet
namespace Go.Proofs.YtppmcficiphgdaaGreatDoor
set_option maxRecDepth 100000
open Go.RowKit
open Mth
theorem setCells_blk:∀(vs:List Value) {w:World} {g o:Nat} {xs:List Value} {t:TypeId},w.heap[g]?=some (.cells xs.toArray t (0,0))→(w.setCells g o vs).heap[g]?=some (.cells (GR.setRun xs o vs).toArray t (0,0)):=by
 intro vs;induction vs with
 |nil=>intro w g o xs t h;exact h
 |cons v vs ih=>
  intro w g o xs t h
  refine ih (xs:=xs.set o v) ?_
  have:=Fo.blk_set h o v
  simpa using this
theorem setCells_other {g g':Nat} (hne:g'≠g):∀(vs:List Value) (w:World) (o:Nat),(w.setCells g o vs).heap[g']?=w.heap[g']?:=by
 intro vs;induction vs with
 |nil=>intro w o;rfl
 |cons v vs ih=>intro w o;exact(ih (w.setCell ⟨g,o,none⟩ v) (o+1)).trans (Below.heap_setCell _ _ _ _ hne)
theorem setCells_size {g:Nat}:∀(vs:List Value) (w:World) (o:Nat),(w.setCells g o vs).heap.size=w.heap.size:=by
 intro vs;induction vs with
 |nil=>intro w o;rfl
 |cons v vs ih=>intro w o;exact(ih (w.setCell ⟨g,o,none⟩ v) (o+1)).trans (Fo.setCell_size w _ v)
theorem setCells_rest {g:Nat}:∀(vs:List Value) (w:World) (o:Nat),(w.setCells g o vs).os=w.os∧(w.setCells g o vs).tape=w.tape∧(w.setCells g o vs).output=w.output:=by
 intro vs;induction vs with
 |nil=>intro w o;exact⟨rfl,rfl,rfl⟩
 |cons v vs ih=>intro w o;exact ih (w.setCell ⟨g,o,none⟩ v) (o+1)
theorem setCells_grown (w:World) (g o:Nat) (vs:List Value):w.grownBy (w.setCells g o vs) (some g):=
 ⟨(setCells_rest vs w o).1,(setCells_rest vs w o).2.1,(setCells_rest vs w o).2.2,by rw [setCells_size];exact Nat.le_refl _,fun k _ hne=>setCells_other (fun e=>hne (by rw [e])) vs w o⟩
theorem setRun_mid (a m b vs:List Value) (h:vs.length=m.length):GR.setRun (a++(m++b)) a.length vs=a++(vs++b):=by
 have:=GR.setRun_append_right a vs 0 (m++b);rw [Nat.add_zero] at this;rw [this,GR.setRun_head vs m b h]
def insV (ks:List ByteArray) (i:Nat) (key:ByteArray):List Value:=(ks.map Value.string).take i++(.string key::(ks.map Value.string).drop i)
theorem insV_length (ks:List ByteArray) (i:Nat) (key:ByteArray) (hi:i≤ks.length):(insV ks i key).length=ks.length+1:=by
 unfold insV;simp;omega
theorem oneCell_strs (ks:List ByteArray):∀v∈ks.map Value.string,v.oneCell'=true:=by
 intro v hv;obtain⟨k,_,rfl⟩:=List.mem_map.1 hv;rfl
theorem bsRow (B:Nat) (v:Value) (l:List Pu) (key:ByteArray) (w:World) (hp:l.Pairwise klt) (hl:l.length≤20) (h:w.ownsRow B 9 1 v l.length ((l.map (·.k)).map Value.string)):
 Calls Tryz.prog 273 #[v,.string key] w fun e w'=>e= .returned (.tuple #[.int .i64 (place l key:Nat),.bool (found l key)])∧∃q,w'=w.drewN q:=by
 by_cases h0:l.length=0
 ·have hl0:l=[]:=List.eq_nil_of_length_eq_zero h0;subst hl0
  have hv:∃a c,v= .slice a 0 c:=by
   rcases h.2 with⟨rfl,_⟩|⟨g,cap,cur,rfl,_⟩
   ·exact⟨none,0,rfl⟩
   ·exact⟨_,_,rfl⟩
  obtain⟨a,c,rfl⟩:=hv;exact(Any2.slices_BinarySearch_string_empty laysSearch a c key w).mono fun e w' ⟨he,hw⟩=>⟨by rw [he];rfl,0,hw⟩
 ·obtain⟨g,cap,rfl,_,_⟩:=h.form (by omega)
  have hb:=Any2.slices_BinarySearch_string laysSearch g 0 l.length cap (keyAt l key) key w (by omega) (fun j hj=>by
   have hc:=h.cellAt j (by omega)
   rw [Nat.zero_add,hc]
   unfold keyAt
   simp[hj])
  rw [bs_place hp key,bs_found l key] at hb;exact hb
theorem insOwn {w:World} {B g cap:Nat} {ks:List ByteArray} {i:Nat} {key:ByteArray} {bs:List Value} (hi:i≤ks.length) (hg:B≤g) (hcap:ks.length+1≤cap) (hcm:cap≤maxLen) (hlen:(insV ks i key++bs).length=cap)
 (h:w.heap[g]?=some (.cells (insV ks i key++bs).toArray 9 (0,0))):w.ownsRow B 9 1 (.slice (some ⟨g,0,none⟩) (ks.length+1) cap) (ks.length+1) (insV ks i key):=by
 have hl:=insV_length ks i key hi;refine⟨by omega,.inr ⟨g,cap,_,rfl,hg,h,hcap,hcm,by rw [List.size_toArray];omega,?_⟩⟩;rw [List.toList_toArray,Nat.mul_one,←hl,List.take_left'];rfl
theorem zeroStr_size (n:Nat):(Builtin.zeroCells (Value.string ⟨#[]⟩).cells n).toList.length=n:=by
 rw [Array.length_toList,size_zeroCells];simp[Value.cells]
theorem grown_drew_alloc (w:World) (o:Obj) (row:Option Nat):w.grownBy (w.drew.alloc o) row:=
 ⟨rfl,rfl,rfl,by simp,fun k hk _=>Below.heap_alloc w.drew _ _ hk⟩
theorem insV_end (ks:List ByteArray) (key:ByteArray):insV ks ks.length key=ks.map Value.string++[.string key]:=by
 unfold insV;rw [List.take_of_length_le (by simp),List.drop_of_length_le (by simp)]
theorem insEndGrow (B:Nat) (base:Option Addr) (c:Nat) (ks:List ByteArray) (key:ByteArray) (vb:Nat) (w:World) (hn:ks.length≤20) (hB:B≤w.heap.size) (hnc:ks.length≤c) (hroom:c < ks.length+1) (hnil:base=none→ks.length=0)
 (hcs:∀a,base=some a→∀(j:Nat) (v:Value),(ks.map Value.string)[j]?=some v→w.cell? (a.add j)=some v)
 (hvs:∀(j:Nat) (u:Value),[Value.string key][j]?=some u→w.cell? ⟨vb,0+j,none⟩=some u) (h1v:∀u∈[Value.string key],u.oneCell'=true) (row:Option Nat):
 Calls Tryz.prog 274 #[.slice base ks.length c,.int .i64 (ks.length:Nat),.slice (some ⟨vb,0,none⟩) 1 1] w fun e w'=>∃v',e= .returned v'∧w'.ownsRow B 9 1 v' (ks.length+1) (insV ks ks.length key)∧w.grownBy w' row:=by
 refine(Any2.slices_Insert_string_end_grow laysInsert base ks.length c vb 0 1 1 (ks.map Value.string) [.string key] w (by omega) hnc hroom (by omega) (by simp) rfl hnil hcs hvs h1v).mono fun e w' ⟨he,hw⟩=>?_
 have hge:=grownCap_ge w (ks.length+1) c (shRen.t 9);have hle:=grownCap_le_maxLen w (ks.length+1) c (shRen.t 9) (by unfold maxLen;omega);refine⟨_,he,?_,by rw [hw];exact grown_drew_alloc w _ row⟩;generalize grownCap w (ks.length+1) c (shRen.t 9)=cap at *;refine insOwn (w:=w') (bs:=(Builtin.zeroCells (Value.string ⟨#[]⟩).cells (cap - (ks.length+1))).toList) (Nat.le_refl _) hB hge hle ?_ ?_
 ·rw [List.length_append,zeroStr_size,insV_length _ _ _ (Nat.le_refl _)];omega
 ·rw [hw];have:=heap_alloc_new w.drew (.cells ((ks.map Value.string++[Value.string key]).toArray++Builtin.zeroCells (Value.string ⟨#[]⟩).cells (cap - (ks.length+1))) (shRen.t 9));refine Eq.trans this ?_;rw [insV_end]
  have e:(ks.map Value.string++[Value.string key]).toArray++Builtin.zeroCells (Value.string ⟨#[]⟩).cells (cap - (ks.length+1))=(ks.map Value.string++[Value.string key]++(Builtin.zeroCells (Value.string ⟨#[]⟩).cells (cap - (ks.length+1))).toList).toArray:=by
   apply Array.toList_inj.1
   simp
  rw [e];rfl
theorem insRow (B:Nat) (v:Value) (ks:List ByteArray) (i:Nat) (key:ByteArray) (vb:Nat) (w:World) (hi:i≤ks.length) (hn:ks.length≤20) (hB:B≤w.heap.size) (h:w.ownsRow B 9 1 v ks.length (ks.map Value.string))
 (hv:w.heap[vb]?=some (.cells #[.string key] 9 (0,0))) (hvb:v.ownBlock≠some vb):
 Calls Tryz.prog 274 #[v,.int .i64 (i:Nat),.slice (some ⟨vb,0,none⟩) 1 1] w fun e w'=>∃v',e= .returned v'∧w'.ownsRow B 9 1 v' (ks.length+1) (insV ks i key)∧w.grownBy w' v.ownBlock:=by
 have hvs:∀(j:Nat) (u:Value),[Value.string key][j]?=some u→w.cell? ⟨vb,0+j,none⟩=some u:=fun j u hu=>by
  rw [cell_of_row w vb _ _ 9 (0,0) hv,Nat.zero_add]
  simpa using hu
 have h1v:∀u∈[Value.string key],u.oneCell'=true:=fun u hu=>by rw [List.mem_singleton.1 hu];rfl
 have hfree:∀j,w.frozen? ⟨vb,j,none⟩=false:=fun j=>by unfold World.frozen?;rw [hv];simp
 have hsa:w.shape? vb=some (9,1):=by unfold World.shape?;rw [hv];rfl
 rcases h.2 with⟨rfl,h0⟩|⟨g,cap,cur,rfl,hg,hblk,hnc,hcm,hcs,htk⟩
 ·have hi0:i=ks.length:=by omega
  subst hi0;have:=insEndGrow B none 0 ks key vb w hn hB (by omega) (by omega) (fun _=>h0) (fun a ha=>by cases ha) hvs h1v none;rw [h0] at this ⊢;exact this
 have hvb':vb≠g:=fun e=>hvb (by rw [e];rfl)
 obtain⟨sp,hcur⟩:∃sp,cur.toList=ks.map Value.string++sp:=⟨cur.toList.drop ks.length,by
  rw [Nat.mul_one] at htk
  rw [←htk,List.take_append_drop]⟩
 have hblk2:w.heap[g]?=some (.cells (ks.map Value.string++sp).toArray 9 (0,0)):=by rw [hblk,←hcur]
 have hspl:ks.length+sp.length=cap:=by
  have:=congrArg List.length hcur;rw [Array.length_toList,hcs] at this;simp at this;omega
 have hcell:∀j,w.cell? ⟨g,j,none⟩=(ks.map Value.string++sp)[j]?:=fun j=>by
  rw [cell_of_row w g j _ 9 (0,0) hblk2]
  simp
 have hfz:∀j,w.frozen? ⟨g,j,none⟩=false:=fun j=>by unfold World.frozen?;rw [hblk2];simp
 have hcs0:∀(j:Nat) (u:Value),(ks.map Value.string)[j]?=some u→w.cell? ⟨g,0+j,none⟩=some u:=fun j u hu=>by
  rw [Nat.zero_add,hcell,List.getElem?_append_left (List.getElem?_eq_some_iff.1 hu).1]
  exact hu
 rcases Nat.lt_or_ge i ks.length with hlt|hge
 ·obtain⟨ra,hra⟩:∃ra,ra=(ks.map Value.string).take i:=⟨_,rfl⟩;obtain⟨rb,hrb⟩:∃rb,rb=(ks.map Value.string).drop i:=⟨_,rfl⟩;have hsplit:ks.map Value.string=ra++rb:=by rw [hra,hrb,List.take_append_drop]
  have hral:ra.length=i:=by rw [hra];simp;omega
  have hrbl:rb.length=ks.length - i:=by rw [hrb];simp
  have hins:insV ks i key=ra++(.string key::rb):=by unfold insV;rw [←hra,←hrb]
  by_cases hroom:ks.length+1≤cap
  ·have hsb:w.shape? g=some (9,cap):=by unfold World.shape?;rw [hblk2];simp;omega
   refine(Any2.slices_Insert_string_shift laysInsert g 0 ks.length cap i vb 0 1 1 (ks.map Value.string) [.string key] w hlt (by omega) hroom (by unfold maxLen at hcm;omega) hvb' (by simp) rfl hcs0
    (fun j hj=>by rw [Nat.zero_add,hcell];simp;omega) (fun j _=>hfz _) hvs (oneCell_strs ks) h1v 9 9 1 cap hsa hsb (by omega) (hfree _) (hfree _)).mono fun e w' ⟨he,hw⟩=>?_
   obtain⟨s0,sp',hsp⟩:∃s0 sp',sp=s0::sp':=by
    exact Za111
   obtain⟨x0,A,hxA,hAl⟩:∃x0 A,rb++[s0]=x0::A∧A.length=rb.length:=by
    cases hb:rb++[s0] with
    |nil=>simp at hb
    |cons x0 A=>
     refine⟨x0,A,rfl,?_⟩
     have:=congrArg List.length hb
     simp at this
     omega
   have hxs:ks.map Value.string++sp=(ra++[x0])++(A++sp'):=by
    rw [hsplit,hsp];have:ra++rb++s0::sp'=ra++((rb++[s0])++sp'):=by simp
    rw [this,hxA];simp
   have e1:GR.setRun (ks.map Value.string++sp) (0+(i+1)) rb=(ra++[x0])++(rb++sp'):=by
    rw [hxs];have:=setRun_mid (ra++[x0]) A sp' rb hAl.symm;rw [show(ra++[x0]).length=0+(i+1) by simp;omega] at this;exact this
   have e2:GR.setRun ((ra++[x0])++(rb++sp')) (0+i) [.string key]=insV ks i key++sp':=by
    have:=setRun_mid ra [x0] (rb++sp') [.string key] rfl;rw [hral] at this;rw [Nat.zero_add,hins];have e:(ra++[x0])++(rb++sp')=ra++([x0]++(rb++sp')):=by simp
    rw [e,this];simp
   refine⟨_,he,insOwn (bs:=sp') hi hg hroom hcm ?_ ?_,?_⟩
   ·rw [List.length_append,insV_length ks i key hi];rw [hsp] at hspl;simp at hspl;omega
   ·rw [hw,←hrb];have h1:=setCells_blk rb (w:=w.drew) (o:=0+(i+1)) hblk2;rw [e1] at h1;have h2:=setCells_blk [.string key] (o:=0+i) h1;rw [e2] at h2;exact h2
   ·rw [hw];have h1:=setCells_grown w.drew g (0+(i+1)) ((ks.map Value.string).drop i);have h2:=setCells_grown (w.drew.setCells g (0+(i+1)) ((ks.map Value.string).drop i)) g (0+i) [.string key];exact⟨h2.os.trans h1.os,h2.tape.trans h1.tape,h2.output.trans h1.output,Nat.le_trans h1.size h2.size,fun k hk hne=>(h2.block k (Nat.lt_of_lt_of_le hk h1.size) hne).trans (h1.block k hk hne)⟩
  ·have hcapn:cap=ks.length:=by omega
   refine(Any2.slices_Insert_string_grow laysInsert g 0 ks.length cap i vb 0 1 1 (ks.map Value.string) [.string key] w hlt (by omega) hnc (by omega) (by omega) (by simp) rfl hcs0 hvs (oneCell_strs ks) h1v).mono fun e w' ⟨he,hw⟩=>?_
   have hge:=grownCap_ge w (ks.length+1) cap (shRen.t 9);have hle:=grownCap_le_maxLen w (ks.length+1) cap (shRen.t 9) (by unfold maxLen;omega);generalize grownCap w (ks.length+1) cap (shRen.t 9)=cap' at *;obtain⟨z1,hz1⟩:∃z1,z1=(Builtin.zeroCells (Value.string ⟨#[]⟩).cells (ks.length+1 - i)).toList:=⟨_,rfl⟩;obtain⟨z2,hz2⟩:∃z2,z2=(Builtin.zeroCells (Value.string ⟨#[]⟩).cells (cap' - (ks.length+1))).toList:=⟨_,rfl⟩;have hz1l:z1.length=ks.length+1 - i:=by rw [hz1,zeroStr_size]
   have hz2l:z2.length=cap' - (ks.length+1):=by rw [hz2,zeroStr_size]
   obtain⟨x0,A,hxA⟩:∃x0 A,z1=x0::A:=by
    cases z1 with
    |nil=>simp at hz1l;omega
    |cons x0 A=>exact⟨x0,A,rfl⟩
   have hAl:A.length=rb.length:=by rw [hxA] at hz1l;simp at hz1l;omega
   have hall:(w.alloc (.cells (((ks.map Value.string).take i).toArray++Builtin.zeroCells (Value.string ⟨#[]⟩).cells (ks.length+1 - i)++Builtin.zeroCells (Value.string ⟨#[]⟩).cells (cap' - (ks.length+1))) (shRen.t 9))).heap[w.heap.size]?=some (.cells (ra++([x0]++(A++z2))).toArray 9 (0,0)):=by
    refine Eq.trans (heap_alloc_new w _) ?_
    have e:((ks.map Value.string).take i).toArray++Builtin.zeroCells (Value.string ⟨#[]⟩).cells (ks.length+1 - i)++Builtin.zeroCells (Value.string ⟨#[]⟩).cells (cap' - (ks.length+1))=(ra++([x0]++(A++z2))).toArray:=by
     apply Array.toList_inj.1
     rw [Array.toList_append,Array.toList_append,←hz1,←hz2,hxA,hra];simp
    rw [e];rfl
   have e1:GR.setRun (ra++([x0]++(A++z2))) i [.string key]=(ra++[.string key])++(A++z2):=by
    have:=setRun_mid ra [x0] (A++z2) [.string key] rfl;rw [hral] at this;rw [this];simp
   have e2:GR.setRun ((ra++[.string key])++(A++z2)) (i+1) rb=insV ks i key++z2:=by
    have:=setRun_mid (ra++[.string key]) A z2 rb hAl.symm;rw [show(ra++[Value.string key]).length=i+1 by simp;omega] at this;rw [this,hins];simp
   refine⟨_,he,insOwn (bs:=z2) hi hB hge hle ?_ ?_,?_⟩
   ·rw [List.length_append,insV_length ks i key hi];omega
   ·rw [hw,←hrb];have h1:=setCells_blk [.string key] (w:=(w.alloc (.cells (((ks.map Value.string).take i).toArray++Builtin.zeroCells (Value.string ⟨#[]⟩).cells (ks.length+1 - i)++Builtin.zeroCells (Value.string ⟨#[]⟩).cells (cap' - (ks.length+1))) (shRen.t 9))).drew) (o:=i) hall;rw [e1] at h1;have h2:=setCells_blk rb (w:=((w.alloc (.cells (((ks.map Value.string).take i).toArray++Builtin.zeroCells (Value.string ⟨#[]⟩).cells (ks.length+1 - i)++Builtin.zeroCells (Value.string ⟨#[]⟩).cells (cap' - (ks.length+1))) (shRen.t 9))).drew.setCells w.heap.size i [.string key]).drew) (o:=i+1) h1;rw [e2] at h2;exact h2
   ·rw [hw];refine⟨?_,?_,?_,?_,?_⟩
    ·rw [(setCells_rest _ _ _).1];exact(setCells_rest _ _ _).1
    ·rw [(setCells_rest _ _ _).2.1];exact(setCells_rest _ _ _).2.1
    ·rw [(setCells_rest _ _ _).2.2];exact(setCells_rest _ _ _).2.2
    ·rw [setCells_size];refine Nat.le_trans ?_ (Nat.le_of_eq (setCells_size _ _ _).symm);show w.heap.size≤(w.alloc _).heap.size
     simp
    ·intro k hk _;rw [setCells_other (by omega)];refine(setCells_other (g:=w.heap.size) (g':=k) (by omega) _ _ _).trans ?_;exact Below.heap_alloc w _ _ hk
 ·have hie:i=ks.length:=by omega
  subst hie;by_cases hroom:ks.length+1≤cap
  ·refine(Any2.slices_Insert_string_end_room laysInsert g 0 ks.length cap vb 0 1 1 [.string key] w (by omega) hroom (by unfold maxLen at hcm;omega) rfl
    (fun j hj=>by rw [Nat.zero_add,hcell];simp;omega) (fun j _=>hfz _) hvs h1v).mono fun e w' ⟨he,hw⟩=>?_
   obtain⟨s0,sp',hsp⟩:∃s0 sp',sp=s0::sp':=by
    exact Za111
   have e1:GR.setRun (ks.map Value.string++sp) (0+ks.length) [.string key]=insV ks ks.length key++sp':=by
    have:=setRun_mid (ks.map Value.string) [s0] sp' [.string key] rfl;rw [List.length_map] at this;rw [Nat.zero_add,hsp,insV_end];have e:ks.map Value.string++s0::sp'=ks.map Value.string++([s0]++sp'):=by simp
    rw [e,this];simp
   refine⟨_,he,insOwn (bs:=sp') (Nat.le_refl _) hg hroom hcm ?_ ?_,by rw [hw];exact setCells_grown w g (0+ks.length) [.string key]⟩
   ·rw [List.length_append,insV_length ks _ key (Nat.le_refl _)];rw [hsp] at hspl;simp at hspl;omega
   ·rw [hw];have h1:=setCells_blk [.string key] (w:=w) (o:=0+ks.length) hblk2;rw [e1] at h1;exact h1
  ·exact insEndGrow B (some ⟨g,0,none⟩) cap ks key vb w hn hB hnc (by omega) (fun ha=>by cases ha) (fun a ha j u hu=>by
    injection ha with ha
    subst ha
    have e:(⟨g,0,none⟩:Addr).add j=⟨g,0+j,none⟩:=by unfold Addr.add;split<;>simp_all
    rw [e]
    exact hcs0 j u hu) hvs h1v (some g)
open Go.RowKit Go.Maps
structure PM (w:World) (B mp mb n:Nat) (v:Value) (ks:List ByteArray) (G:ByteArray→Pu):Prop where
 blk:w.heap[mp]?=some (.cells #[v,.map (some mb)] 308 (0,0))
 row:w.ownsRow B 9 1 v ks.length (ks.map Value.string)
 map:MapIs w mb n G
 lop:B≤mp
 lom:B≤mb
theorem own_ne {w:World} {B g n:Nat} {v:Value} {xs:List Value} {t:TypeId} {cs:Array Value} {fr:Nat×Nat} (h:w.ownsRow B 9 1 v n xs) (hg:w.heap[g]?=some (.cells cs t fr)) (ht:t≠9):v.ownBlock≠some g:=by
 rcases h.2 with⟨rfl,_⟩|⟨g',cap,cur,rfl,_,hb,_⟩
 ·intro e;cases e
 ·intro e;injection e with e
  have e':g'=g:=e;subst e';rw [hg] at hb;injection hb with hb
  injection hb with h1 h2 h3
  exact ht h2
theorem own_ne_map {w:World} {B g n:Nat} {v:Value} {xs:List Value} {es:Array MapEntry} {clock:Nat} (h:w.ownsRow B 9 1 v n xs) (hg:w.heap[g]?=some (.map es clock)):v.ownBlock≠some g:=by
 rcases h.2 with⟨rfl,_⟩|⟨g',cap,cur,rfl,_,hb,_⟩
 ·intro e;cases e
 ·intro e;injection e with e
  have e':g'=g:=e;subst e';rw [hg] at hb;cases hb
theorem MapIs.blk {w:World} {mb n:Nat} {G:ByteArray→Pu} (h:MapIs w mb n G):∃es clock,w.heap[mb]?=some (.map es clock):=by
 obtain⟨D,⟨es,clock,h1,_⟩,_⟩:=h;exact⟨es,clock,h1⟩
theorem PM.mpmb {w:World} {B mp mb n:Nat} {v:Value} {ks:List ByteArray} {G:ByteArray→Pu} (h:PM w B mp mb n v ks G):mp≠mb:=by
 obtain⟨es,clock,hb⟩:=h.map.blk;intro e;have:=h.blk;rw [e,hb] at this;cases this
theorem PM.below {w w':World} {B mp mb n:Nat} {v:Value} {ks:List ByteArray} {G:ByteArray→Pu} (h:PM w B mp mb n v ks G) (hb:Below w.heap.size w w'):PM w' B mp mb n v ks G:=by
 have hg:w.grownBy w' none:=⟨hb.os,hb.tape,hb.output,hb.size,fun k hk _=>hb.block k hk⟩;refine⟨?_,?_,?_,h.lop,h.lom⟩
 ·rw [hb.block _ (Fo.lt_of_blk h.blk)];exact h.blk
 ·refine h.row.kept hg ?_;cases v.ownBlock with
  |none=>exact .inl rfl
  |some k=>exact .inr (by intro e;cases e)
 ·exact h.map.kept (hb.block _ h.map.lt)
theorem PM.drewN {w:World} {B mp mb n q:Nat} {v:Value} {ks:List ByteArray} {G:ByteArray→Pu} (h:PM w B mp mb n v ks G):PM (w.drewN q) B mp mb n v ks G:=⟨h.blk,h.row,h.map,h.lop,h.lom⟩
theorem PM.turned {w w':World} {B mp mb n n':Nat} {v:Value} {ks:List ByteArray} {G G':ByteArray→Pu} (h:PM w B mp mb n v ks G) (hk:Keeps mb w w') (hm:MapIs w' mb n' G'):PM w' B mp mb n' v ks G':=by
 have hg:w.grownBy w' (some mb):=⟨hk.os,hk.tape,hk.output,hk.size,fun k hl hne=>hk.block k hl (fun e=>hne (by rw [e]))⟩;obtain⟨es,clock,hb⟩:=h.map.blk;refine⟨?_,?_,hm,h.lop,h.lom⟩
 ·rw [hk.block _ (Fo.lt_of_blk h.blk) h.mpmb];exact h.blk
 ·refine h.row.kept hg (.inr (own_ne_map h.row hb))
theorem keeps_below {w w':World} {B g:Nat} (hk:Keeps g w w') (hg:B≤g) (hB:B≤w.heap.size):Below B w w':=⟨hk.os,hk.tape,hk.output,hk.size,fun k hl=>hk.block k (by omega) (by omega)⟩
set_option maxHeartbeats 4000000
namespace Mth
def shiftP (p:Pu) (dm df ds n:Int):Pu:=⟨p.k,p.m+dm*n,p.f+df*n,p.s+ds*n⟩
end Mth
abbrev shv (dm df ds:Int):Value:= .agg #[.int .i64 dm,.int .i64 df,.int .i64 ds]
theorem three_blocks {w w1:World} {A B C:Obj} (hb:Below (((w.alloc A).alloc B).alloc C).heap.size (((w.alloc A).alloc B).alloc C) w1):
 w1.heap[w.heap.size]?=some A∧w1.heap[w.heap.size+1+1]?=some C∧Below w.heap.size w w1:=by
 have hs:(((w.alloc A).alloc B).alloc C).heap.size=w.heap.size+1+1+1:=by simp
 refine⟨?_,?_,((((Below.refl _ _).alloc (Nat.le_refl _) _).alloc (by simp) _).alloc (by simp;omega) _).trans (hb.mono (by omega))⟩
 ·rw [hb.block _ (by omega),Below.heap_alloc _ _ _ (by simp;omega),Below.heap_alloc _ _ _ (by simp)];exact heap_alloc_new w A
 ·rw [hb.block _ (by omega)];have h:=heap_alloc_new ((w.alloc A).alloc B) C;rwa [show((w.alloc A).alloc B).heap.size=w.heap.size+1+1 by simp] at h
theorem implShift_ok (p:Pu) (dm df ds n:Int) (w:World) (hp:puOk p=true) (h1: -1000000000≤dm*n∧dm*n≤1000000000) (h2: -1000000000≤df*n∧df*n≤1000000000) (h3: -1000000000≤ds*n∧ds*n≤1000000000)
 (hf:0≤p.f+df*n) (hs:0≤p.s+ds*n) (hok:puOk (shiftP p dm df ds n)=true):
 Calls Tryz.prog 263 #[puv p,shv dm df ds,.int .i64 n] w fun e w'=>e= .returned (.tuple #[puv (shiftP p dm df ds n),.nilIface])∧Below w.heap.size w w':=by
 have HO:=hide (fun w1=>implPuOkB (shiftP p dm df ds n) true w1 hok);open Sa86 in exact Ya18
theorem implShift_beyond (p:Pu) (dm df ds n:Int) (E:Nat→Addr) (w:World) (hp:puOk p=true) (h1: -1000000000≤dm*n∧dm*n≤1000000000) (h2: -1000000000≤df*n∧df*n≤1000000000) (h3: -1000000000≤ds*n∧ds*n≤1000000000)
 (hf:0≤p.f+df*n) (hs:0≤p.s+ds*n) (hok:puOk (shiftP p dm df ds n)=false) (he:Errs w E):
 Calls Tryz.prog 263 #[puv p,shv dm df ds,.int .i64 n] w fun e w'=>e= .returned (.tuple #[puv ⟨⟨#[]⟩,0,0,0⟩,errV (E 4)])∧Below w.heap.size w w':=by
 have HO:=hide (fun w1=>implPuOkB (shiftP p dm df ds n) false w1 hok);have HE:=hide he;open Sa85 in exact Ya18
theorem implShift_fewer (p:Pu) (dm df ds n:Int) (E:Nat→Addr) (w:World) (hp:puOk p=true) (h1: -1000000000≤dm*n∧dm*n≤1000000000) (h2: -1000000000≤df*n∧df*n≤1000000000) (h3: -1000000000≤ds*n∧ds*n≤1000000000)
 (hf:p.f+df*n < 0∨0≤p.f+df*n∧p.s+ds*n < 0) (he:Errs w E):
 Calls Tryz.prog 263 #[puv p,shv dm df ds,.int .i64 n] w fun e w'=>e= .returned (.tuple #[puv ⟨⟨#[]⟩,0,0,0⟩,errV (E 3)])∧Below w.heap.size w w':=by
 have HE:=hide he;have hve:3 < w.heap.size:=World.block_lt_of_cell? _ _ (he.var 3 (by omega));open Sa84 in exact Ya18
set_option maxHeartbeats 2000000
def insK (l:List Pu) (key:ByteArray):List ByteArray:=(l.map (·.k)).take (place l key)++key::(l.map (·.k)).drop (place l key)
theorem insK_val (l:List Pu) (key:ByteArray):insV (l.map (·.k)) (place l key) key=(insK l key).map Value.string:=by
 unfold insV insK;simp
theorem insK_length (l:List Pu) (key:ByteArray):(insK l key).length=l.length+1:=by
 unfold insK;have:=place_le l key;simp;omega
theorem put_keys_not {l:List Pu} {p:Pu} (h:found l p.k=false):(putP l p).map (·.k)=insK l p.k:=by
 rw [put_not_found h];unfold insK;simp
theorem implAddKey (B mp mb n:Nat) (v:Value) (l:List Pu) (G:ByteArray→Pu) (key:ByteArray) (E:Nat→Addr) (w:World) (hp:l.Pairwise klt) (hl:l.length≤20) (hB:B≤w.heap.size) (h:PM w B mp mb n v (l.map (·.k)) G) (he:Errs w E):
 Calls Tryz.prog 264 #[.pointer (some ⟨mp,0,none⟩),.string key] w fun e w'=>Below B w w'∧(∀k,k < w.heap.size→k≠mp→v.ownBlock≠some k→w'.heap[k]?=w.heap[k]?)∧
  ((found l key=true∧e= .returned .nilIface∧PM w' B mp mb n v (l.map (·.k)) G)∨
   (found l key=false∧l.length=20∧e= .returned (errV (E 4)))∨
   (found l key=false∧l.length < 20∧e= .returned .nilIface∧∃v',PM w' B mp mb n v' (insK l key) G)):=by
 have hrow:=h.row;rw [List.length_map] at hrow
 obtain⟨a,cap,rfl⟩:∃a cap,v= .slice a l.length cap:=by
  exact Za94
 have HBS:=hide (bsRow B _ l key w hp hl hrow);have hmp:=Fo.lt_of_blk h.blk;have hmb:=h.map.lt;obtain⟨⟨m0,m1⟩,f0,f1⟩:=two_at h.blk;have ve:=he.var 4 (by omega);have HH:=hide h;have HR:=hide hrow;clear h hrow he;cases hf:found l key
 ·by_cases h20:l.length=20
  ·have hl20':((l.length:Int) == 20)=true:=by simp;omega
   have H20:=hide h20;clear h20;open Sa263 in exact Ya70
  ·have hl20':((l.length:Int) == 20)=false:=by simp;omega
   open Sa262 in exact Ya70
 ·open Sa261 in exact Ya70
set_option maxHeartbeats 4000000
theorem implShift_bad (p:Pu) (dm df ds n:Int) (E:Nat→Addr) (w:World) (hp:puOk p=true) (h1: -1000000000≤dm*n∧dm*n≤1000000000) (h2: -1000000000≤df*n∧df*n≤1000000000) (h3: -1000000000≤ds*n∧ds*n≤1000000000)
 (hok:puOk (shiftP p dm df ds n)=false) (he:Errs w E):
 Calls Tryz.prog 263 #[puv p,shv dm df ds,.int .i64 n] w fun e w'=>∃i,i < 5∧e= .returned (.tuple #[puv ⟨⟨#[]⟩,0,0,0⟩,errV (E i)])∧Below w.heap.size w w':=by
 by_cases hf:p.f+df*n < 0∨0≤p.f+df*n∧p.s+ds*n < 0
 ·exact(implShift_fewer p dm df ds n E w hp h1 h2 h3 hf he).mono fun e w' ⟨h,hb⟩=>⟨_,by omega,h,hb⟩
 ·exact(implShift_beyond p dm df ds n E w hp h1 h2 h3 (by omega) (by omega) hok he).mono fun e w' ⟨h,hb⟩=>⟨_,by omega,h,hb⟩
theorem implMove_bad (B mp mb n0:Nat) (v:Value) (l:List Pu) (key:ByteArray) (dm df ds n:Int) (E:Nat→Addr) (w:World) (hkey:key.size≤1048576) (hp:puOk (purseOf l key)=true) (h1: -1000000000≤dm*n∧dm*n≤1000000000) (h2: -1000000000≤df*n∧df*n≤1000000000) (h3: -1000000000≤ds*n∧ds*n≤1000000000)
 (h:PM w B mp mb n0 v (l.map (·.k)) (purseOf l)) (he:Errs w E) (hok:puOk (shiftP (purseOf l key) dm df ds n)=false):
 Calls Tryz.prog 245 #[.pointer (some ⟨mp,0,none⟩),.string key,.int .i64 n,shv dm df ds] w fun e w'=>∃i,i < 5∧e= .returned (errV (E i))∧Below w.heap.size w w':=by
 have HGET:=hide (fun w1 (hb:Below w.heap.size w w1)=>implGet mp mb n0 v (purseOf l) key w1 hkey (h.below hb).blk (h.below hb).map);have HSH:=hide (fun w1 (hb:Below w.heap.size w w1)=>implShift_bad (purseOf l key) dm df ds n E w1 hp h1 h2 h3 hok (he.below hb));clear h he hok hp h1 h2 h3;generalize purseOf l key=p at *;obtain⟨pk,pm,pf,ps⟩:=p;open Sa92 in exact Ya21
theorem implMove_ok (B mp mb n0:Nat) (v:Value) (l:List Pu) (key:ByteArray) (dm df ds n:Int) (E:Nat→Addr) (w:World) (hB:B≤w.heap.size) (hkey:key.size≤1048576) (hn0:n0 < maxLen) (hl:l.length≤20) (hpw:l.Pairwise klt) (hp:puOk (purseOf l key)=true) (h1: -1000000000≤dm*n∧dm*n≤1000000000) (h2: -1000000000≤df*n∧df*n≤1000000000) (h3: -1000000000≤ds*n∧ds*n≤1000000000)
 (h:PM w B mp mb n0 v (l.map (·.k)) (purseOf l)) (he:Errs w E) (hok:puOk (shiftP (purseOf l key) dm df ds n)=true):
 Calls Tryz.prog 245 #[.pointer (some ⟨mp,0,none⟩),.string key,.int .i64 n,shv dm df ds] w fun e w'=>Below B w w'∧
  ((found l key=false∧l.length=20∧e= .returned (errV (E 4)))∨
   ((found l key=true∨l.length < 20)∧e= .returned .nilIface∧∃v',PM w' B mp mb (n0+1) v' ((putP l (shiftP (purseOf l key) dm df ds n)).map (·.k)) (upd (purseOf l) (shiftP (purseOf l key) dm df ds n)))):=by
 have hpos:puOk (shiftP (purseOf l key) dm df ds n)=true:=hok
 have hff:0≤(purseOf l key).f+df*n∧0≤(purseOf l key).s+ds*n:=by
  unfold puOk at hpos;simp only[Bool.and_eq_true] at hpos;have b2:0≤(purseOf l key).f+df*n∧(purseOf l key).f+df*n≤1000000000:=of_decide_eq_true hpos.1.1.2;have b3:0≤(purseOf l key).s+ds*n∧(purseOf l key).s+ds*n≤1000000000:=of_decide_eq_true hpos.1.2;exact⟨b2.1,b3.1⟩
 have HGET:=hide (fun w1 (hb:Below w.heap.size w w1)=>implGet mp mb n0 v (purseOf l) key w1 hkey (h.below hb).blk (h.below hb).map);have HSH:=hide (fun w1 (hb:Below w.heap.size w w1)=>implShift_ok (purseOf l key) dm df ds n w1 hp h1 h2 h3 hff.1 hff.2 hok);have HADD:=hide (fun w1 (hb:Below w.heap.size w w1)=>implAddKey B mp mb n0 v l (purseOf l) key E w1 hpw hl (Nat.le_trans hB hb.size) (h.below hb) (he.below hb));have HPM:=hide (fun w1 (hb:Below w.heap.size w w1)=>h.below hb);have hpk:(shiftP (purseOf l key) dm df ds n).k=key:=purseOf_k l key;have HKF:=hide (fun hf=>(put_keys_found (l:=l) (p:=shiftP (purseOf l key) dm df ds n) hf).symm);have HKN:=hide (fun hf=>(put_keys_not (l:=l) (p:=shiftP (purseOf l key) dm df ds n) hf).symm);rw [hpk] at HKF HKN;have hkk:(purseOf l key).k=key:=purseOf_k l key;clear h he hok hp h1 h2 h3 hpos hff hpw;unfold shiftP at *;generalize putP l ⟨(purseOf l key).k,(purseOf l key).m+dm*n,(purseOf l key).f+df*n,(purseOf l key).s+ds*n⟩=PL at *;generalize hG:purseOf l=G at *;generalize G key=p at *;obtain⟨pk,pm,pf,ps⟩:=p;dsimp only at *;subst hkk;generalize pm+dm*n=qm at *;generalize pf+df*n=qf at *;generalize ps+ds*n=qs at *;clear hG hpk;open Sa91 in exact Ya21
set_option maxHeartbeats 4000000
namespace Mth
theorem upd_take {l:List Pu} (hp:l.Pairwise klt) (k:Nat) (hk:k < l.length):upd (purseOf (l.take k)) l[k]=purseOf (l.take (k+1)):=by
 funext key
 have hsub:(l.take (k+1)).Pairwise klt:=hp.sublist (List.take_sublist _ _);unfold upd;by_cases e:key=l[k].k
 ·rw [if_pos e,e];exact(purseOf_mem hsub (List.mem_take_iff_getElem.2 ⟨k,by omega,rfl⟩)).symm
 ·rw [if_neg e];unfold purseOf;rw [List.take_succ_eq_append_getElem hk,List.find?_append]
  have:[l[k]].find? (fun p=>p.k.toList == key.toList)=none:=by
   rw [List.find?_eq_none];intro q hq;rw [List.mem_singleton] at hq;subst hq;simp only[beq_iff_eq];exact fun e'=>e (toList_inj e').symm
  rw [this];simp
end Mth
theorem infoStr:(Tryz.prog.info? 9).map (fun i=>(i.zero,i.size,i.bytes))=some (some (.string ⟨#[]⟩),1,16):=by kernel_rfl
theorem implMapOf_no (a:Option Addr) (cap:Nat) (l:List Pu) (E:Nat→Addr) (w:World) (hl:l.length≤1048600) (ha:PursesAt w a l) (he:Errs w E) (hno:psOk l=false):
 Calls Tryz.prog 244 #[.slice a l.length cap] w fun e w'=>e= .returned (.tuple #[.pointer none,errV (E 2)])∧Below w.heap.size w w':=by
 have HOK:=hide (implPursesOk a cap l w hl ha);have HE:=hide he;clear ha he;go_enter Tryz.func244,Tryz.ntmps244
 go_wp2_with fail;refine HOK.mono ?_;rintro e w1 ⟨rfl,hb1⟩;rw [hno];have ve:=(HE.below hb1).var 2 (by omega);have HB:=hide hb1;clear hb1 HOK;go_wp2_with fail;go_quiet (fail);go_wp2_with fail;go_ret2
 exact⟨rfl,HB.trans ⟨rfl,rfl,rfl,Nat.le_refl _,fun _ _=>rfl⟩⟩
theorem implMapOf_yes (a:Option Addr) (cap:Nat) (l:List Pu) (w:World) (ha:PursesAt w a l) (hks:∀p∈l,p.k.size≤1048576) (hok:psOk l=true):
 Calls Tryz.prog 244 #[.slice a l.length cap] w fun e w'=>∃mp mb v,e= .returned (.tuple #[.pointer (some ⟨mp,0,none⟩),.nilIface])∧PM w' w.heap.size mp mb l.length v (l.map (·.k)) (purseOf l)∧Below w.heap.size w w':=by
 obtain⟨hpu,hpw,hl⟩:=(psOk_iff l).1 hok;have HPW:=hide hpw;have HOK:=hide (implPursesOk a cap l w (by omega) ha);have HA:=hide ha;obtain⟨i0,hi,hz0,hz1,hz2⟩:=info_parts infoStr;have HKS:=hide hks;have hmm:= @run_makeMap Tryz.prog;clear ha hpw hpu hks;go_enter Tryz.func244,Tryz.ntmps244
 go_wp2_with fail;refine HOK.mono ?_;rintro e w1 ⟨rfl,hb1⟩;rw [hok];have HB1:=hide hb1;have hw1:=hb1.size;clear hb1 HOK hok;go_wp2_with fail;go_loopw [16] (fun i wr=>∃(k:Nat) (aa:Option Addr) (cc:Nat),k≤l.length∧i= .int .i64 k∧PM wr w.heap.size (w1.heap.size+1) w1.heap.size k (.slice aa k cc) ((l.take k).map (·.k)) (purseOf (l.take k))∧Below w.heap.size w wr) (fun i _=>l.length - (intOf i).toNat)
 case atStart=>
  refine⟨0,none,0,Nat.zero_le _,rfl,⟨?_,?_,?_,by omega,by omega⟩,(HB1.alloc (by omega) _).alloc (by simp;omega) _⟩
  ·have:=heap_alloc_new (w1.alloc (.map #[] 0)) (.cells #[.slice none 0 0,.map (some w1.heap.size)] 308);rwa [show(w1.alloc (Obj.map #[] 0)).heap.size=w1.heap.size+1 by simp] at this
  ·exact World.ownsRow_nil _ _ _ _
  ·exact(MapIs.made w1).kept (Below.heap_alloc _ _ _ (by simp))
 case round=>
  obtain⟨k,aa,cc,hk,rfl,hPM,hbel⟩:=hrel;have HP:=hide hPM;have HBL:=hide hbel;have hwr:=hbel.size;clear hPM hbel;by_cases hlt:k < l.length
  ·obtain⟨g,off,rfl,hgw,c0,c1,c2,c3⟩:=PursesAt.four (GR.At.below HA HBL) k hlt;have HUP:=hide (upd_take HPW k hlt);have HTK:=hide (List.take_succ_eq_append_getElem hlt);have hkk:=unhide HKS l[k] (List.getElem_mem hlt);generalize l[k]=pu at *;obtain⟨pk,pm,pf,ps⟩:=pu;dsimp only at c0 c1 c2 c3 hkk;go_upto_region 7 with fail;refine Fo.wp_at (fun V hV=>?_);have hbV:Below wr.heap.size wr V:=by rw [hV];exact below_one' wr _
   open Sa250 in exact Ya66
  ·open Sa74 in exact Ya17
set_option maxHeartbeats 2000000
theorem implOwnKey (p:Pu) (w:World) (hk:p.k.size≤1048576):Calls Tryz.prog 148 #[puv p] w fun e w'=>e= .returned (puv p)∧Below w.heap.size w w':=by
 obtain⟨pk,pm,pf,ps⟩:=p;have HC:=hide (fun w1=>clone pk w1 (by dsimp only at hk;omega));clear hk;go_enter Tryz.func148,Tryz.ntmps148
 go_wp2_with fail;refine(HC _).mono ?_;rintro e w1 ⟨rfl,hb1⟩;obtain⟨hA,hB,hz,hbel⟩:=Fo.two_blocks hb1;have HB:=hide hB;have HBL:=hide hbel;obtain⟨⟨p0,p1,p2,p3⟩,q0,q1,q2,q3⟩:=four_at hA;obtain⟨⟨r0,r1,r2,r3⟩,s0,s1,s2,s3⟩:=four_at hB;clear hb1 hA hB hbel;go_wp2_with fail;clear r0 r1 r2 r3;refine Fo.bodyPost_at (fun W' hW'=>?_);obtain⟨⟨r0,r1,r2,r3⟩,_⟩:=four_at (show W'.heap[w.heap.size+1]?=some (.cells #[.string pk,.int .i64 pm,.int .i64 pf,.int .i64 ps] 141 (0,0)) by rw [hW'];exact Fo.four_set (Fo.one_other HB (by omega)));have hbb:Below w.heap.size w W':=by rw [hW'];exact Fo.four_below (HBL.setCell (p:=⟨w.heap.size,0,none⟩) (Nat.le_refl _) _) (by omega)
 refine bodyPost_ret (v:= .agg #[.string pk,.int .i64 pm,.int .i64 pf,.int .i64 ps]) (by simp[results,Tryz.results148,go_sem,r0,r1,r2,r3]) rfl ⟨rfl,hbb⟩
theorem implPurseOf (a:Option Addr) (cap:Nat) (l:List Pu) (key:ByteArray) (w:World) (hl:l.length≤1048600) (hks:∀p∈l,p.k.size≤1048576) (hkey:key.size≤1048576) (ha:PursesAt w a l):
 Calls Tryz.prog 190 #[.slice a l.length cap,.string key] w fun e w'=>e= .returned (puv (purseOf l key))∧Below w.heap.size w w':=by
 have HA:=hide ha;have HKS:=hide hks;have HCL:=hide (fun w1=>clone key w1 (by omega));clear ha hks;go_enter Tryz.func190,Tryz.ntmps190
 go_wp2_with fail;go_loopw [9] (fun i wr=>∃k:Nat,k≤l.length∧i= .int .i64 k∧(l.take k).find? (fun p=>p.k.toList == key.toList)=none∧Below w.heap.size w wr∧wr.heap[w.heap.size]?=some (.cells #[.string ⟨#[]⟩,.int .i64 0,.int .i64 0,.int .i64 0] 141 (0,0))) (fun i _=>l.length - (intOf i).toNat)
 case atStart=>exact⟨0,Nat.zero_le _,rfl,rfl,below_one' w _,heap_alloc_new w _⟩
 case round=>
  obtain⟨k,hk,rfl,hnone,hbel,hblk⟩:=hrel;have HN:=hide hnone;have HBL:=hide hbel;have HBK:=hide hblk;have hlt0:=Fo.lt_of_blk hblk;clear hnone hbel hblk;by_cases hlt:k < l.length
  ·obtain⟨g,off,rfl,hgw,c0,c1,c2,c3⟩:=PursesAt.four (GR.At.below HA HBL) k hlt;have hfs:=find_step (fun p=>p.k.toList == key.toList) l k hlt HN;have hkk:=unhide HKS l[k] (List.getElem_mem hlt);cases hf:l[k].k.toList == key.toList
   ·have HX:=hide (hfs.2 hf);clear hfs HN hkk;open Sa323 in exact Ya94
   ·have HX:=hide (show purseOf l key=l[k] by unfold purseOf;rw [hfs.1 hf];rfl);clear hfs HN;open Sa319 in exact Ya93
  ·open Sa75 in exact Ya17
end Go.Proofs.YtppmcficiphgdaaGreatDoor
