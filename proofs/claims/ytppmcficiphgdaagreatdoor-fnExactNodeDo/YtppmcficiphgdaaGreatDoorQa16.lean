/-
  NdCopy1, NdShelf, NdI4, NdNewM, NdI5, NdNew.
-/
import Derived.Test.YtppmcficiphgdaaGreatDoorQa13
import Derived.Test.YtppmcficiphgdaaGreatDoorQa15
import Derived.Test.YtppmcficiphgdaaGreatDoorQa12
import Derived.Test.YtppmcficiphgdaaGreatDoorQaZ3
import Derived.Test.YtppmcficiphgdaaGreatDoorProg
import Derived.Test.YtppmcficiphgdaaGreatDoorQa3
import Derived.Test.YtppmcficiphgdaaGreatDoorQa4
import Derived.Test.YtppmcficiphgdaaGreatDoorQa8
import Derived.Test.YtppmcficiphgdaaGreatDoorQa7
import Derived.Shelf.SortM.Plain
import Derived.Shelf.SortM.SortNone
import Derived.Shelf.SlicesE.Clone
import Derived.Shelf.SlGeneric
import Derived.Sort.OwnSortedInts
import Derived.Deep.AppendLies
namespace Go.Proofs.YtppmcficiphgdaaGreatDoor
set_option maxHeartbeats 1000000
set_option maxRecDepth 100000
open Go.RowKit
open Mth
theorem newsG {α:Type} {enc:α→List Value} {sz:Nat} (hs:∀x,(enc x).length=sz) (hz:0 < sz) {w:World} {x:Addr} {l:List α} (h:GR.At enc sz w (some x) l):∀j u,(GR.flat enc l)[j]?=some u→w.cell? (x.add j)=some u:=by
 intro j u hu
 have hj:j < l.length*sz:=by
  have:=(List.getElem?_eq_some_iff.1 hu).1;rwa [GR.flat_length enc sz hs] at this
 have hi:j / sz < l.length:=Nat.div_lt_of_lt_mul (by rw [Nat.mul_comm];exact hj);have hr:j % sz < sz:=Nat.mod_lt _ hz;have ej:j / sz*sz+j % sz=j:=by rw [Nat.mul_comm];exact Nat.div_add_mod j sz
 obtain⟨g,off,e,hg,hc⟩:=h (j / sz) hi;have hf:=GR.flat_at enc sz hs l (j / sz) hi (j % sz) hr;rw [ej] at hf;have h2:=hc (j % sz) hr;rw [ej,←hf,hu] at h2;injection e with e
 subst e;rw [Addr.add_lit];exact h2
theorem flatSnt_one (l:List Snt):∀u∈GR.flat encSnt l,u.oneCell'=true:=by
 intro u hu;unfold GR.flat at hu;rw [List.mem_flatMap] at hu;obtain⟨p,_,hp⟩:=hu;simp only[encSnt,List.mem_cons,List.not_mem_nil,or_false] at hp;rcases hp with rfl|rfl|rfl|rfl<;>rfl
theorem own_blk {α:Type} {enc:α→List Value} {sz:Nat} {w:World} {B:Nat} {t:TypeId} {a:Option Addr} {cp:Nat} {l:List α} (h:w.ownsRow B t sz (.slice a l.length cp) l.length (GR.flat enc l)) (hl:0 < l.length):∃g rest,a=some ⟨g,0,none⟩∧B≤g∧w.heap[g]?=some (.cells (GR.flat enc l++rest).toArray t (0,0)):=by
 rcases h.2 with⟨_,hy⟩|⟨g,cp',cur,hx,hbg,hgg,hnc,hcm,hcs,htk⟩
 ·omega
 simp only[Value.slice.injEq] at hx;obtain⟨rfl,_,rfl⟩:=hx;refine⟨g,cur.toList.drop (l.length*sz),rfl,hbg,?_⟩;rw [←htk,List.take_append_drop,Array.toArray_toList];exact hgg
theorem own_cell {α:Type} {enc:α→List Value} {sz:Nat} (hs:∀x,(enc x).length=sz) {w:World} {g:Nat} {l:List α} {t:TypeId} {rest:List Value} (h:w.heap[g]?=some (.cells (GR.flat enc l++rest).toArray t (0,0))) (i:Nat) (hi:i < l.length) (j:Nat) (hj:j < sz):w.cell? ⟨g,i*sz+j,none⟩=(enc l[i])[j]?:=by
 have hlt:i*sz+j < (GR.flat enc l).length:=by
  rw [GR.flat_length enc sz hs];have:(i+1)*sz≤l.length*sz:=Nat.mul_le_mul_right sz hi;exact Za118
 rw [cell_of_row w g _ _ t (0,0) h,List.getElem?_toArray,List.getElem?_append_left hlt];exact GR.flat_at enc sz hs l i hi j hj
theorem below_same {w:World} {g i:Nat} {v:Value} {cs:Array Value} {t:TypeId} {fr:Nat×Nat} (h:w.heap[g]?=some (.cells cs t fr)) (hc:w.cell? ⟨g,i,none⟩=some v):Below w.heap.size w (w.setCell ⟨g,i,none⟩ v):=by
 refine⟨rfl,rfl,rfl,by simp[World.setCell],fun k hk=>?_⟩;by_cases e:k=g
 ·subst e;have h1:w.cell? ⟨k,i,none⟩=cs[i]?:=cell_of_row w k i cs t fr h;rw [hc] at h1;unfold World.setCell;simp only[Array.getElem?_modify];rw [if_pos trivial,h]
  have h2:cs.setIfInBounds i v=cs:=by
   apply Array.ext_getElem?
   intro q;rw [Array.getElem?_setIfInBounds];split
   ·rename_i e
    subst e;split
    ·exact h1
    ·rw [Array.getElem?_eq_none (by omega)]
   ·rfl
  simp[h2]
 ·exact Below.heap_setCell _ _ _ _ e
theorem cloneSnt (a:Option Addr) (cap:Nat) (l:List Snt) (w:World) (hl:l.length≤1048600) (hv:∀u∈GR.flat encSnt l,u.oneCell'=true) (ha:GR.At encSnt 4 w a l):
 Calls Tryz.prog 94 #[.slice a l.length cap] w fun e w'=>∃v,e= .returned v∧w'.ownsRow w.heap.size 79 4 v l.length (GR.flat encSnt l)∧Below w.heap.size w w':=by
 obtain⟨i0,hi,hz0,hz1,hz2⟩:=info_parts infoSent;have q22:∀(w:World) (a:Option Addr) (n c n' c':Nat),(binOp .eql 26 (.slice a n c) (.slice none n' c')).run Tryz.prog w= .ok (.bool a.isNone) w:=fun w a n c n' c'=>Lib.run_eql_slice_nil w _ _ a n c n' c' Tryz.underlying26
 have hlit:(w.alloc (.cells #[] 79)).ownsRow w.heap.size 79 4 (.slice (some ⟨w.heap.size,0,none⟩) 0 0) 0 []:=World.ownsRow_lit (base:=w.heap.size) (e:=79) (size:=4) w #[] 0 (Nat.le_refl _) (by decide) rfl;cases a with
 |none=>
  have hl0:l=[]:=GR.none_nil ha
  subst hl0
  clear ha hlit hv
  go_enter Tryz.func94,Tryz.ntmps94
  go_wp2_with fail
  go_ret
  exact⟨_,rfl,World.ownsRow_nil _ _ _ _,Below.refl _ _⟩
 |some x=>
  have HN:=hide (newsG encSnt_length (by omega) (GR.At.below ha (below_one w (.cells #[] 79))))
  have HV:=hide hv
  clear ha hv
  go_enter Tryz.func94,Tryz.ntmps94
  go_wp2_with (at_builtin;refine wpList_append_own _ rfl _ _ 26 rfl w.heap.size 79 i0 (.agg #[.int .i64 0,.int .i64 0,.string ByteArray.empty,.int .i64 0]) 4 40 Tryz.underlying26 hi hz0 hz1 hz2 rfl (by decide) _ 0 [] rfl hlit x l.length cap (GR.flat encSnt l) rfl ?c0 ?c1 ?c2 ?c3 ?c4 ?c5 ?_)
  case c0=>exact GR.flat_length encSnt 4 encSnt_length l
  case c1=>exact HN
  case c2=>exact HV
  case c3=>unfold maxLen;omega
  case c4=>omega
  case c5=>simp
  intro v' w1 hown' hgrow _
  have HO:=hide (show w1.ownsRow w.heap.size 79 4 v' l.length (GR.flat encSnt l) by simpa using hown')
  have hb:Below w.heap.size w w1:=(below_one w _).grown hgrow (by simp) (fun k hk=>by cases hk;exact Nat.le_refl _)
  clear hown' hgrow hlit
  go_wp2
  go_ret
  exact⟨_,rfl,HO,hb⟩
theorem cloneRq (a:Option Addr) (cap:Nat) (l:List Rq) (w:World) (hl:l.length≤1048600) (hv:∀u∈GR.flat encRq l,u.oneCell'=true) (ha:GR.At encRq 4 w a l):
 Calls Tryz.prog 97 #[.slice a l.length cap] w fun e w'=>∃v,e= .returned v∧w'.ownsRow w.heap.size 49 4 v l.length (GR.flat encRq l)∧Below w.heap.size w w':=by
 obtain⟨i0,hi,hz0,hz1,hz2⟩:=info_parts infoReq;have q22:∀(w:World) (a:Option Addr) (n c n' c':Nat),(binOp .eql 28 (.slice a n c) (.slice none n' c')).run Tryz.prog w= .ok (.bool a.isNone) w:=fun w a n c n' c'=>Lib.run_eql_slice_nil w _ _ a n c n' c' Tryz.underlying28
 have hlit:(w.alloc (.cells #[] 49)).ownsRow w.heap.size 49 4 (.slice (some ⟨w.heap.size,0,none⟩) 0 0) 0 []:=World.ownsRow_lit (base:=w.heap.size) (e:=49) (size:=4) w #[] 0 (Nat.le_refl _) (by decide) rfl;cases a with
 |none=>
  have hl0:l=[]:=GR.none_nil ha
  subst hl0
  clear ha hlit hv
  go_enter Tryz.func97,Tryz.ntmps97
  go_wp2_with fail
  go_ret
  exact⟨_,rfl,World.ownsRow_nil _ _ _ _,Below.refl _ _⟩
 |some x=>
  have HN:=hide (newsG encRq_length (by omega) (GR.At.below ha (below_one w (.cells #[] 49))))
  have HV:=hide hv
  clear ha hv
  go_enter Tryz.func97,Tryz.ntmps97
  go_wp2_with (at_builtin;refine wpList_append_own _ rfl _ _ 28 rfl w.heap.size 49 i0 (.agg #[.int .i64 0,.string ByteArray.empty,.int .i64 0,.int .i64 0]) 4 40 Tryz.underlying28 hi hz0 hz1 hz2 rfl (by decide) _ 0 [] rfl hlit x l.length cap (GR.flat encRq l) rfl ?c0 ?c1 ?c2 ?c3 ?c4 ?c5 ?_)
  case c0=>exact GR.flat_length encRq 4 encRq_length l
  case c1=>exact HN
  case c2=>exact HV
  case c3=>unfold maxLen;omega
  case c4=>omega
  case c5=>simp
  intro v' w1 hown' hgrow _
  have HO:=hide (show w1.ownsRow w.heap.size 49 4 v' l.length (GR.flat encRq l) by simpa using hown')
  have hb:Below w.heap.size w w1:=(below_one w _).grown hgrow (by simp) (fun k hk=>by cases hk;exact Nat.le_refl _)
  clear hown' hgrow hlit
  go_wp2
  go_ret
  exact⟨_,rfl,HO,hb⟩
theorem cloneR3 (a:Option Addr) (cap:Nat) (l:List R3) (w:World) (hl:l.length≤1048600) (hv:∀u∈GR.flat encR3 l,u.oneCell'=true) (ha:GR.At encR3 3 w a l):
 Calls Tryz.prog 96 #[.slice a l.length cap] w fun e w'=>∃v,e= .returned v∧w'.ownsRow w.heap.size 81 3 v l.length (GR.flat encR3 l)∧Below w.heap.size w w':=by
 obtain⟨i0,hi,hz0,hz1,hz2⟩:=info_parts infoSeen;have q22:∀(w:World) (a:Option Addr) (n c n' c':Nat),(binOp .eql 27 (.slice a n c) (.slice none n' c')).run Tryz.prog w= .ok (.bool a.isNone) w:=fun w a n c n' c'=>Lib.run_eql_slice_nil w _ _ a n c n' c' Tryz.underlying27
 have hlit:(w.alloc (.cells #[] 81)).ownsRow w.heap.size 81 3 (.slice (some ⟨w.heap.size,0,none⟩) 0 0) 0 []:=World.ownsRow_lit (base:=w.heap.size) (e:=81) (size:=3) w #[] 0 (Nat.le_refl _) (by decide) rfl;cases a with
 |none=>
  have hl0:l=[]:=GR.none_nil ha
  subst hl0
  clear ha hlit hv
  go_enter Tryz.func96,Tryz.ntmps96
  go_wp2_with fail
  go_ret
  exact⟨_,rfl,World.ownsRow_nil _ _ _ _,Below.refl _ _⟩
 |some x=>
  have HN:=hide (newsG encR3_length (by omega) (GR.At.below ha (below_one w (.cells #[] 81))))
  have HV:=hide hv
  clear ha hv
  go_enter Tryz.func96,Tryz.ntmps96
  go_wp2_with (at_builtin;refine wpList_append_own _ rfl _ _ 27 rfl w.heap.size 81 i0 (.agg #[.int .i64 0,.int .i64 0,.slice none 0 0]) 3 40 Tryz.underlying27 hi hz0 hz1 hz2 rfl (by decide) _ 0 [] rfl hlit x l.length cap (GR.flat encR3 l) rfl ?c0 ?c1 ?c2 ?c3 ?c4 ?c5 ?_)
  case c0=>exact GR.flat_length encR3 3 encR3_length l
  case c1=>exact HN
  case c2=>exact HV
  case c3=>unfold maxLen;omega
  case c4=>omega
  case c5=>simp
  intro v' w1 hown' hgrow _
  have HO:=hide (show w1.ownsRow w.heap.size 81 3 v' l.length (GR.flat encR3 l) by simpa using hown')
  have hb:Below w.heap.size w w1:=(below_one w _).grown hgrow (by simp) (fun k hk=>by cases hk;exact Nat.le_refl _)
  clear hown' hgrow hlit
  go_wp2
  go_ret
  exact⟨_,rfl,HO,hb⟩
theorem seen_row {w:World} {a:Option Addr} {l:List Sn} (h:SeenAt w a l):∃T:List R3,T.length=l.length∧GR.At encR3 3 w a T∧(∀u∈GR.flat encR3 T,u.oneCell'=true)∧∀i (hi:i < l.length),∃b c,T[i]?=some ⟨l[i].f,l[i].l,.slice b l[i].ids.length c⟩∧IntsAt w b l[i].ids:=by
 have hk:∀k,k≤l.length→∃T:List R3,T.length=k∧(∀i (hi:i < T.length) (hl:i < l.length),∃b c,T[i]=⟨l[i].f,l[i].l,.slice b l[i].ids.length c⟩∧IntsAt w b l[i].ids∧∃g off,a=some ⟨g,off,none⟩∧g < w.heap.size∧w.cell? ⟨g,off+i*3,none⟩=some (.int .i64 l[i].f)∧w.cell? ⟨g,off+i*3+1,none⟩=some (.int .i64 l[i].l)∧w.cell? ⟨g,off+i*3+2,none⟩=some (.slice b l[i].ids.length c)):=by
  intro k;induction k with
  |zero=>intro _;exact⟨[],rfl,fun i hi=>by simp at hi⟩
  |succ k ih=>
   intro hk
   obtain⟨T,hT,hr⟩:=ih (by omega)
   obtain⟨g,off,b,c,e,hg,h0,h1,h2,h3⟩:=h k (by omega)
   refine⟨T++[⟨l[k].f,l[k].l,.slice b l[k].ids.length c⟩],by simp[hT],fun i hi hl=>?_⟩
   by_cases hik:i < T.length
   ·rw [List.getElem_append_left hik];exact hr i hik hl
   ·have hi':i=k:=by simp at hi;omega
    subst hi';refine⟨b,c,?_,h3,g,off,e,hg,h0,h1,h2⟩;rw [List.getElem_append_right (by omega)];simp[hT]
 obtain⟨T,hT,hr⟩:=hk l.length (Nat.le_refl _);refine⟨T,hT,fun i hi=>?_,fun u hu=>?_,fun i hi=>?_⟩
 ·obtain⟨b,c,e,_,g,off,ea,hg,h0,h1,h2⟩:=hr i hi (by omega);refine⟨g,off,ea,hg,fun j hj=>?_⟩;rw [e];match j,hj with
  |0,_=>exact h0
  |1,_=>rw [←Nat.add_assoc];exact h1
  |2,_=>rw [←Nat.add_assoc];exact h2
 ·unfold GR.flat at hu;rw [List.mem_flatMap] at hu;obtain⟨p,hp,hq⟩:=hu;obtain⟨i,hi,rfl⟩:=List.mem_iff_getElem.1 hp;obtain⟨b,c,e,_⟩:=hr i hi (by omega);rw [e] at hq;simp only[encR3,List.mem_cons,List.not_mem_nil,or_false] at hq;rcases hq with rfl|rfl|rfl<;>rfl
 ·obtain⟨b,c,e,hI,_⟩:=hr i (by omega) hi;exact⟨b,c,by rw [List.getElem?_eq_getElem (by omega),e],hI⟩
end Go.Proofs.YtppmcficiphgdaaGreatDoor
namespace Go.Proofs
open Go.Shelf
def Tryz.sortL_ren:Go.Shelf.Ren:=⟨fun|5=>183|8=>215|7=>214|19=>242|20=>243|10=>233|11=>234|12=>235|13=>236|14=>237|15=>238|16=>239|17=>240|18=>241|30=>255|31=>256|32=>257|33=>258|34=>259|35=>260|40=>271|n=>n,fun|23=>24|25=>3|3=>3|32=>203|22=>24|0=>0|44=>150|46=>281|4=>4|36=>273|35=>272|41=>182|5=>5|9=>9|53=>300|57=>304|63=>331|64=>193|n=>n,fun|n=>n⟩
theorem Tryz.sortL:Go.Proofs.SlLaysM.n5 Tryz.prog Tryz.sortL_ren:={
 mixed:=by kernel_rfl
 f5:=⟨Tryz.f183.name,by decide,Tryz.func183.trans (congrArg some (by kernel_rfl))⟩
 f7:=⟨Tryz.f214.name,by decide,Tryz.func214.trans (congrArg some (by kernel_rfl))⟩
 f8:=Tryz.func215.trans (congrArg some (by kernel_rfl))
 f10:=⟨Tryz.f233.name,by decide,Tryz.func233.trans (congrArg some (by kernel_rfl))⟩
 f11:=⟨Tryz.f234.name,by decide,Tryz.func234.trans (congrArg some (by kernel_rfl))⟩
 f12:=⟨Tryz.f235.name,by decide,Tryz.func235.trans (congrArg some (by kernel_rfl))⟩
 f13:=⟨Tryz.f236.name,by decide,Tryz.func236.trans (congrArg some (by kernel_rfl))⟩
 f14:=⟨Tryz.f237.name,by decide,Tryz.func237.trans (congrArg some (by kernel_rfl))⟩
 f15:=⟨Tryz.f238.name,by decide,Tryz.func238.trans (congrArg some (by kernel_rfl))⟩
 f16:=⟨Tryz.f239.name,by decide,Tryz.func239.trans (congrArg some (by kernel_rfl))⟩
 f17:=⟨Tryz.f240.name,by decide,Tryz.func240.trans (congrArg some (by kernel_rfl))⟩
 f18:=⟨Tryz.f241.name,by decide,Tryz.func241.trans (congrArg some (by kernel_rfl))⟩
 f19:=Tryz.func242.trans (congrArg some (by kernel_rfl))
 f20:=Tryz.func243.trans (congrArg some (by kernel_rfl))
 f30:=⟨Tryz.f255.name,by decide,Tryz.func255.trans (congrArg some (by kernel_rfl))⟩
 f31:=Tryz.func256.trans (congrArg some (by kernel_rfl))
 f32:=Tryz.func257.trans (congrArg some (by kernel_rfl))
 f33:=⟨Tryz.f258.name,by decide,Tryz.func258.trans (congrArg some (by kernel_rfl))⟩
 f34:=⟨Tryz.f259.name,by decide,Tryz.func259.trans (congrArg some (by kernel_rfl))⟩
 f35:=⟨Tryz.f260.name,by decide,Tryz.func260.trans (congrArg some (by kernel_rfl))⟩
 f40:=⟨Tryz.f271.name,by decide,Tryz.func271.trans (congrArg some (by kernel_rfl))⟩
 t0:=Tryz.underlying0
 a0:=Tryz.isAgg0
 z0:=Tryz.sizeOf0
 v0:=Tryz.zeroValue0
 t3:=Tryz.underlying3
 a3:=Tryz.isAgg3
 z3:=Tryz.sizeOf3
 v3:=Tryz.zeroValue3
 t4:=Tryz.underlying4
 a4:=Tryz.isAgg4
 z4:=Tryz.sizeOf4
 v4:=Tryz.zeroValue4
 t5:=Tryz.underlying5
 a5:=Tryz.isAgg5
 z5:=Tryz.sizeOf5
 v5:=Tryz.zeroValue5
 t9:=Tryz.underlying9
 a9:=Tryz.isAgg9
 z9:=Tryz.sizeOf9
 v9:=Tryz.zeroValue9
 t22:=Tryz.underlying24
 a22:=Tryz.isAgg24
 z22:=Tryz.sizeOf24
 v22:=Tryz.zeroValue24
 t23:=Tryz.underlying24
 a23:=Tryz.isAgg24
 z23:=Tryz.sizeOf24
 v23:=Tryz.zeroValue24
 t25:=Tryz.underlying3
 a25:=Tryz.isAgg3
 z25:=Tryz.sizeOf3
 v25:=Tryz.zeroValue3
 t32:=Tryz.underlying203
 a32:=Tryz.isAgg203
 z32:=Tryz.sizeOf203
 v32:=Tryz.zeroValue203
 t35:=Tryz.underlying272
 a35:=Tryz.isAgg272
 z35:=Tryz.sizeOf272
 v35:=Tryz.zeroValue272
 t36:=Tryz.underlying273
 a36:=Tryz.isAgg273
 z36:=Tryz.sizeOf273
 v36:=Tryz.zeroValue273
 t41:=Tryz.underlying182
 a41:=Tryz.isAgg182
 z41:=Tryz.sizeOf182
 v41:=Tryz.zeroValue182
 t44:=Tryz.underlying150
 a44:=Tryz.isAgg150
 z44:=Tryz.sizeOf150
 v44:=Tryz.zeroValue150
 t46:=Tryz.underlying281
 a46:=Tryz.isAgg281
 z46:=Tryz.sizeOf281
 v46:=Tryz.zeroValue281
 t53:=Tryz.underlying300
 a53:=Tryz.isAgg300
 z53:=Tryz.sizeOf300
 v53:=Tryz.zeroValue300
 t57:=Tryz.underlying304
 a57:=Tryz.isAgg304
 z57:=Tryz.sizeOf304
 v57:=Tryz.zeroValue304
 t63:=Tryz.underlying331
 a63:=Tryz.isAgg331
 z63:=Tryz.sizeOf331
 v63:=Tryz.zeroValue331
 t64:=Tryz.underlying193
 a64:=Tryz.isAgg193
 z64:=Tryz.sizeOf193
 v64:=Tryz.zeroValue193}
end Go.Proofs
namespace Go.Proofs.YtppmcficiphgdaaGreatDoor
set_option maxHeartbeats 2000000
set_option maxRecDepth 100000
open Go.RowKit
open Mth
theorem flat_encNum (l:List Int):GR.flat encNum l=l.map (Value.int .i64):=by
 induction l with
 |nil=>rfl
 |cons x l ih=>rw [GR.flat_cons,ih];rfl
theorem encNum_one:∀(y:Int),∀u∈encNum y,u.oneCell'=true:=by
 intro y u hu;simp only[encNum,List.mem_cons,List.not_mem_nil,or_false] at hu;subst hu;rfl
theorem cloneInts (a:Option Addr) (cap:Nat) (l:List Int) (w:World) (hl:l.length≤1048600) (ha:IntsAt w a l):
 Calls Tryz.prog 92 #[.slice a l.length cap] w fun e w'=>∃v,e= .returned v∧w'.ownsRow w.heap.size 3 1 v l.length (GR.flat encNum l)∧Below w.heap.size w w':=by
 obtain⟨i0,hi,hz0,hz1,hz2⟩:=info_parts infoInt;have q22:∀(w:World) (a:Option Addr) (n c n' c':Nat),(binOp .eql 24 (.slice a n c) (.slice none n' c')).run Tryz.prog w= .ok (.bool a.isNone) w:=fun w a n c n' c'=>Lib.run_eql_slice_nil w _ _ a n c n' c' Tryz.underlying24
 have hlit:(w.alloc (.cells #[] 3)).ownsRow w.heap.size 3 1 (.slice (some ⟨w.heap.size,0,none⟩) 0 0) 0 []:=World.ownsRow_lit (base:=w.heap.size) (e:=3) (size:=1) w #[] 0 (Nat.le_refl _) (by decide) rfl;cases a with
 |none=>
  have hl0:l=[]:=GR.none_nil ha
  subst hl0
  clear ha hlit
  go_enter Tryz.func92,Tryz.ntmps92
  go_wp2_with fail
  go_ret
  exact⟨_,rfl,World.ownsRow_nil _ _ _ _,Below.refl _ _⟩
 |some x=>
  have HN:=hide (GR.At.news encNum_length (by omega) (GR.At.below ha (below_one w (.cells #[] 3))))
  clear ha
  go_enter Tryz.func92,Tryz.ntmps92
  go_wp2_with (at_builtin;refine wpList_append_own _ rfl _ _ 24 rfl w.heap.size 3 i0 (.int .i64 0) 1 8 Tryz.underlying24 hi hz0 hz1 hz2 rfl (by decide) _ 0 [] rfl hlit x l.length cap (GR.flat encNum l) rfl ?c0 ?c1 ?c2 ?c3 ?c4 ?c5 ?_)
  case c0=>exact GR.flat_length encNum 1 encNum_length l
  case c1=>exact HN
  case c2=>exact GR.flat_oneCell encNum_one l
  case c3=>unfold maxLen;omega
  case c4=>omega
  case c5=>simp
  intro v' w1 hown' hgrow _
  have HO:=hide (show w1.ownsRow w.heap.size 3 1 v' l.length (GR.flat encNum l) by simpa using hown')
  have hb:Below w.heap.size w w1:=(below_one w _).grown hgrow (by simp) (fun k hk=>by cases hk;exact Nat.le_refl _)
  clear hown' hgrow hlit
  go_wp2
  go_ret
  exact⟨_,rfl,HO,hb⟩
theorem sortOwn (B:Nat) (v:Value) (l:List Int) (w:World) (hl:l.length≤1048602) (hB:B≤w.heap.size) (h:w.ownsRow B 3 1 v l.length (GR.flat encNum l)):
 Calls Tryz.prog 183 #[v] w fun e w'=>e= .returned (.tuple #[])∧w'.ownsRow B 3 1 v l.length (GR.flat encNum (srt l))∧Below B w w':=by
 rw [flat_encNum] at h ⊢;rcases h.2 with⟨rfl,hn⟩|⟨g,cap,cur,rfl,hg,hblk,h1,h2,h3,h4⟩
 ·have hl0:l=[]:=List.eq_nil_of_length_eq_zero hn;subst hl0;refine(AnyM.slices_Sort_int_none Tryz.sortL none 0 w).mono ?_;rintro e w' ⟨rfl,rfl⟩;refine⟨rfl,?_,Below.refl _ _⟩;simpa [srt] using World.ownsRow_nil _ _ _ _
 ·rw [Nat.mul_one] at h4;have hH:=holds_of_blockI hblk h4;refine(AnyM.slices_Sort_int Tryz.sortL g 0 cap l w hH (obj_lt hblk) (by omega)).mono ?_;rintro e w' ⟨rfl,n,os,rfl⟩;have hs:(srt l).length=l.length:=srt_length l;have h5:=ownsRow_sortedI (n:=n) (os:=os) (ts:=srt l) hs hg hblk h1 h2 h3;exact⟨rfl,h5,(Below.refl B w).grown (grownBy_sortedI _) hB (fun k hk=>by cases hk;exact hg)⟩
theorem implNeighbours (n:Nd) (A:Ads) (w:World) (hl:n.kids.length≤1048600) (ha:IntsAt w A.k n.kids):
 Calls Tryz.prog 154 #[ndv n A] w fun e w'=>∃v,e= .returned v∧w'.ownsRow w.heap.size 3 1 v (nbrs n).length (GR.flat encNum (srt (nbrs n)))∧Below w.heap.size w w':=by
 obtain⟨i0,hi,hz0,hz1,hz2⟩:=info_parts infoInt;have HC:=hide (cloneInts A.k A.ck n.kids (w.alloc (.cells (ndc n A) 30)) hl (GR.At.below ha (below_one w _)));have HBX:=hide (heap_alloc_new w (.cells (ndc n A) 30));have HNB:Hid ((n.par= -1→nbrs n=n.kids)∧(¬n.par= -1→nbrs n=n.kids++[n.par])):=⟨fun h=>by unfold nbrs;rw [if_pos h,List.append_nil],fun h=>by unfold nbrs;rw [if_neg h]⟩;have hln:(nbrs n).length≤1048602:=by unfold nbrs;split<;>simp<;>omega
 generalize nbrs n=NB at *;open Sa123 in exact Ya26
end Go.Proofs.YtppmcficiphgdaaGreatDoor
namespace Go.Proofs.YtppmcficiphgdaaGreatDoor
open Go.RowKit
open Mth
namespace Mth
def nnode (id par:Int) (kids fs:List Int):Nd:=⟨id,par,kids,1,[],[],fs.map (fun x=>⟨x,1,[]⟩),0,[]⟩
def zeroNd:Nd:=⟨0,0,[],0,[],[],[],0,[]⟩
end Mth
def r3of (x:Int):R3:=⟨x,1,.slice none 0 0⟩
abbrev nnc (id par:Int) (kv v:Value):Array Value:=#[.int .i64 id,.int .i64 par,kv,.int .i64 1,.slice none 0 0,.slice none 0 0,v,.int .i64 0,.slice none 0 0]
structure NN (w2 wr:World) (nb:Nat) (id par:Int) (kv v:Value) (fs:List Int):Prop where
 keep:KeepsL [nb] w2 wr
 blk:wr.heap[nb]?=some (.cells (nnc id par kv v) 30 (0,0))
 own:wr.ownsRow w2.heap.size 81 3 v fs.length (GR.flat encR3 (fs.map r3of))
 lt:nb < w2.heap.size
theorem NN.step {w2 wr w':World} {nb:Nat} {id par:Int} {kv v:Value} {fs:List Int} (h:NN w2 wr nb id par kv v fs) (hb:Below wr.heap.size wr w'):NN w2 w' nb id par kv v fs:=
 ⟨h.keep.trans (KeepsL.of_below hb),obj_step h.blk hb,GR.own_below h.own hb,h.lt⟩
theorem NN.app {w2 wr w6:World} {nb:Nat} {id par:Int} {kv v v':Value} {fs:List Int} {o:Obj} (h:NN w2 wr nb id par kv v fs) (x:Int)
 (hown:w6.ownsRow w2.heap.size 81 3 v' (fs.length+1) (GR.flat encR3 (fs.map r3of)++encR3 (r3of x))) (hg:(wr.alloc o).grownBy w6 v.ownBlock):
 NN w2 (w6.setCell ⟨nb,6,none⟩ v') nb id par kv v' (fs++[x]):=by
 have hvb:∀k,v.ownBlock=some k→w2.heap.size≤k:=fun k hk=>(h.own.lt k hk).1
 have hlt:=h.lt;have hsz:=h.keep.size
 have hblk6:w6.heap[nb]?=some (.cells (nnc id par kv v) 30 (0,0)):=by
  rw [hg.block nb (by simp;omega) (fun e=>by have:=hvb nb e.symm;omega),Below.heap_alloc _ _ _ (by omega)];exact h.blk
 have hne:∀k,v'.ownBlock=some k→k≠nb:=fun k hk=>by have:=(hown.lt k hk).1;omega
 refine⟨?_,?_,?_,hlt⟩
 ·refine⟨hg.os.trans h.keep.os,hg.tape.trans h.keep.tape,hg.output.trans h.keep.output,?_,fun k hk hkn=>?_⟩
  ·have:=hg.size;simp[World.setCell] at this ⊢;omega
  ·have hkn':k≠nb:=by simpa using hkn
   exact Za63
 ·exact blk_setO hblk6 6 v'
 ·have e1:(fs++[x]).length=fs.length+1:=by simp
  have e2:GR.flat encR3 ((fs++[x]).map r3of)=GR.flat encR3 (fs.map r3of)++encR3 (r3of x):=by rw [List.map_append,GR.flat_append];simp[GR.flat]
  rw [e1,e2];refine hown.kept (row:=some nb) ⟨rfl,rfl,rfl,by simp[World.setCell],fun k _ hk=>Below.heap_setCell _ _ _ _ (fun e=>hk (by rw [e]))⟩ ?_;exact Za97
theorem SeenW.new {w:World} {B:Nat} {v:Value} {fs:List Int} (h:w.ownsRow B 81 3 v fs.length (GR.flat encR3 (fs.map r3of))):∃a c g,v= .slice a fs.length c∧SeenW w a g (fun _=>0) (fs.map (fun x=>⟨x,1,[]⟩))∧(∀x∈fp g fs,B≤x∧x < w.heap.size):=by
 have h':w.ownsRow B 81 3 v (fs.map r3of).length (GR.flat encR3 (fs.map r3of)):=by rw [List.length_map];exact h
 obtain⟨a,c,g,e,hW,hr,_⟩:=GR.W.of_own encR3_length h';refine⟨a,c,g,by rw [e,List.length_map],⟨fs.map r3of,hW,by simp,fun i hi=>?_⟩,fun x hx=>hr x ?_⟩
 ·refine⟨none,0,?_,?_⟩
  ·have hi':i < fs.length:=by simpa using hi
   simp[hi',r3of]
  ·simp only[List.getElem_map];exact GR.W.nil
 ·have:=of_fp hx;rw [this.1];exact fp_mem (by simpa using this.2)
theorem fpI_new (I:Nat→Nat) (fs:List Int):fpI I (fs.map (fun x=>(⟨x,1,[]⟩:Sn)))=[]:=by
 apply List.eq_nil_iff_forall_not_mem.2
 intro x hx;obtain⟨i,hi,_,hp⟩:=of_fpI hx;simp at hp
theorem NodeW.new {w:World} {B B2:Nat} {id par:Int} {kv v:Value} {kids fs:List Int} (hk:w.ownsRow B 3 1 kv kids.length (GR.flat encNum kids)) (hkl:∀x,kv.ownBlock=some x→x < B2) (hs:w.ownsRow B2 81 3 v fs.length (GR.flat encR3 (fs.map r3of))) (hB:B≤B2):
 ∃A G,Value.agg (nnc id par kv v)=ndv (nnode id par kids fs) A∧NodeW w A G (nnode id par kids fs)∧G.Sep (nnode id par kids fs) B w.heap.size:=by
 obtain⟨a1,c1,g1,rfl,hW1,hr1,ho1⟩:=GR.W.of_own encNum_length hk;obtain⟨a2,c2,g2,rfl,hW2,hr2⟩:=SeenW.new hs
 have hall:∀x,x∈Blks.all ⟨g1,0,0,g2,0,fun _=>0⟩ (nnode id par kids fs)→x∈fp g1 kids∨x∈fp g2 fs:=fun x hx=>by
  rcases Blks.mem_all.1 hx with h|h|h|h|h|h
  ·exact .inl h
  ·simp[nnode,fp] at h
  ·simp[nnode,fp] at h
  ·right
   rw [fp_len (l':=fs) (by simp[nnode])] at h;exact h
  ·simp only[nnode] at h;rw [fpI_new] at h;simp at h
  ·simp[nnode,fp] at h
 refine⟨⟨a1,none,none,a2,none,c1,0,0,c2,0⟩,⟨g1,0,0,g2,0,fun _=>0⟩,by simp[nnc,ndv,ndc,nnode],⟨hW1,GR.W.nil,GR.W.nil,hW2,GR.W.nil⟩,⟨?_,fun x hx=>?_⟩⟩
 ·have e:Blks.all ⟨g1,0,0,g2,0,fun _=>0⟩ (nnode id par kids fs)=fp g1 kids++fp g2 fs:=by
   unfold Blks.all;simp only[nnode];rw [fpI_new,fp_len (l:=fs.map _) (l':=fs) (by simp)];simp[fp]
  rw [e,List.nodup_append];refine⟨fp_nodup _ _,fp_nodup _ _,fun a ha b hb=>?_⟩;have h1:=hkl a (ho1 a ha);have h2:=(hr2 b hb).1;omega
 ·rcases hall x hx with h|h
  ·exact hr1 x h
  ·have:=hr2 x h;omega
theorem NodeW.zero {w:World}:NodeW w ⟨none,none,none,none,none,0,0,0,0,0⟩ ⟨0,0,0,0,0,fun _=>0⟩ zeroNd∧Blks.Sep ⟨0,0,0,0,0,fun _=>0⟩ zeroNd w.heap.size w.heap.size:=
 ⟨⟨GR.W.nil,GR.W.nil,GR.W.nil,⟨[],GR.W.nil,rfl,fun i hi=>by simp[zeroNd] at hi⟩,GR.W.nil⟩,⟨by simp[Blks.all,zeroNd,fp,fpI],fun x hx=>by simp[Blks.all,zeroNd,fp,fpI] at hx⟩⟩
end Go.Proofs.YtppmcficiphgdaaGreatDoor
namespace Go.Proofs.YtppmcficiphgdaaGreatDoor
set_option maxHeartbeats 4000000
set_option maxRecDepth 100000
open Go.RowKit
open Mth
namespace Mth
theorem seen_step {l:List Sn} {F:List Int} {k:Nat} (hk:k < l.length) (hF:F.length=l.length) (h1:(l.take k).map (·.f)=F.take k) (h2:(l.take k).all snB=true) (h3:(l[k]).f=F[k]'(by omega)) (h4:snB l[k]=true):
 (l.take (k+1)).map (·.f)=F.take (k+1)∧(l.take (k+1)).all snB=true:=by
 rw [List.take_succ_eq_append_getElem hk,List.take_succ_eq_append_getElem (by omega),List.map_append,h1,List.all_append,h2];simp[h3,h4]
theorem seen_bad1 {l:List Sn} {F:List Int} {k:Nat} (hk:k < l.length) (hF:F.length=l.length) (h3:¬(l[k]).f=F[k]'(by omega)):¬l.map (·.f)=F:=by
 intro h;apply h3
 subst h;simp
theorem seen_bad2 {l:List Sn} {k:Nat} (hk:k < l.length) (h4:snB l[k]=false):l.all snB=false:=by
 rw [List.all_eq_false];exact⟨l[k],List.getElem_mem hk,by rw [h4];simp⟩
end Mth
theorem rSeen (s:Sn) (b:Option Addr) (c:Nat) (r:Bool) (wc:World) (hl:s.ids.length≤1048600) (ha:IntsAt wc b s.ids) (hr:snB s=r):∀d os,Calls Tryz.prog 155 #[.agg #[.int .i64 s.f,.int .i64 s.l,.slice b s.ids.length c]] (Sort.grow (redrawn wc d) os) fun e w''=>e= .returned (.bool r)∧∃p:Regrown,w''=Sort.grow (redrawn wc p.d) p.os:=fun d os=>by
 rw [←hr];exact Calls.regrown_of (implSeenOne s b c _ hl (GR.At.below ha (below_regrown wc d os)))
theorem implSeenOk (n:Nd) (A:Ads) (w:World) (hz:NdSz n 1048600) (hp:placeB n=true) (ha:NodeAt w A n):
 Calls Tryz.prog 102 #[ndv n A] w fun e w'=>e= .returned (.bool (toldB n))∧Below w.heap.size w w':=by
 have HA:=hide ha;have HD:=hide (told_eq hp);have HSK:=hide hz.sk;have HNB:=hide (implNeighbours n A (w.alloc (.cells (ndc n A) 30)) hz.k (GR.At.below ha.k (below_one w _)));have HBX:=hide (heap_alloc_new w (.cells (ndc n A) 30));have hls:=hz.s;have hln:(nbrs n).length≤1048602:=by have:=hz.k;unfold nbrs;split<;>simp<;>omega
 have HLS:=hide (srt_length (nbrs n));generalize srt (nbrs n)=F at *;generalize (nbrs n).length=NL at *;generalize toldB n=TT at *;clear ha hz hp;open Sa125 in exact Ya26
theorem implNodeOk (n:Nd) (A:Ads) (w:World) (hz:NdSz n 1048600) (ha:NodeAt w A n):
 Calls Tryz.prog 32 #[ndv n A] w fun e w'=>e= .returned (.bool (ndOk n))∧Below w.heap.size w w':=by
 have HPL:Hid (∀w1,Below w.heap.size w w1→Calls Tryz.prog 98 #[ndv n A] w1 fun e w'=>e= .returned (.bool (placeB n))∧Below w1.heap.size w1 w'):=fun w1 hb=>by
  have h:=implPlaced n A w1 hz.k (ha.below hb).k
  rw [place_same] at h
  exact h
 have HPU:=hide (fun w1 (hb:Below w.heap.size w w1)=>implPursesOk A.p A.cp n.pu w1 hz.p (ha.below hb).p);have HOT:=hide (fun w1 (hb:Below w.heap.size w w1) (hp:placeB n=true)=>implOutOk n A w1 hz hp (ha.below hb));have HSE:=hide (fun w1 (hb:Below w.heap.size w w1) (hp:placeB n=true)=>implSeenOk n A w1 hz hp (ha.below hb));have HRE:=hide (fun w1 (hb:Below w.heap.size w w1)=>implReqsOk n A w1 hz (ha.below hb));have HD:Hid (ndOk n=(placeB n&&psOk n.pu&&toldB n&&smB n.next&&outsB n&&reqsB n)):=rfl;have HBX:=hide (heap_alloc_new w (.cells (ndc n A) 30));generalize placeB n=PL at *;generalize psOk n.pu=PS at *;generalize toldB n=TD at *;generalize outsB n=OT at *;generalize reqsB n=RQ at *;generalize ndOk n=TT at *;clear ha hz;open Sa124 in exact Ya26
end Go.Proofs.YtppmcficiphgdaaGreatDoor
namespace Go.Proofs.YtppmcficiphgdaaGreatDoor
open Go.RowKit
open Mth
abbrev zc9:Array Value:=#[.int .i64 0,.int .i64 0,.slice none 0 0,.int .i64 0,.slice none 0 0,.slice none 0 0,.slice none 0 0,.int .i64 0,.slice none 0 0]
end Go.Proofs.YtppmcficiphgdaaGreatDoor
