/- Parts. -/
import Derived.Test.YtppmcficiphgdaaGreatDoorQa21
import Derived.Test.YtppmcficiphgdaaGreatDoorQa2
import Derived.Laws.OwnMore
import Derived.Laws.AppendOwnNone
namespace Go.Proofs.YtppmcficiphgdaaGreatDoor
open Go.RowKit
open Mth
theorem run_append_zero {P:Program} (w:World) (base:Nat) (t ty e:TypeId) (i:TypeInfo) (size:Nat) (ht:P.underlying t=some (.slice e)) (hi:P.info? e=some i)
 (v:Value) (n:Nat) (xs:List Value) (hown:w.ownsRow base e size v n xs) (a:Option Addr) (c:Nat):
 (Builtin.append_ #[t,t] ty #[v,.slice a 0 c]).run P w= .ok v w:=by
 rcases hown.2 with⟨rfl,rfl⟩|⟨g,cap,cur,rfl,_,_,hnc,_⟩
 ·cases a<;>simp[Builtin.append_,run_underlying ht,sizeOf,typeInfo,hi,Builtin.lenOf,Builtin.firstCells,loadCells,loadCellsFrom]
 ·cases a<;>simp[Builtin.append_,run_underlying ht,sizeOf,typeInfo,hi,Builtin.lenOf,Builtin.firstCells,loadCells,loadCellsFrom,hnc,storeCells]
theorem run_append_row {P:Program} {α:Type} {enc:α→List Value} {sz:Nat} (hs:∀x,(enc x).length=sz) (hz:0 < sz) (w:World) (base:Nat) (t ty e:TypeId) (i:TypeInfo) (z:Value) (bytes:Nat) (ht:P.underlying t=some (.slice e)) (hi:P.info? e=some i) (hz0:i.zero=some z)
 (hsize:i.size=sz) (hby:i.bytes=bytes) (hzs:z.cells.size=sz) (v:Value) (n:Nat) (xs:List Value) (hown:w.ownsRow base e sz v n xs)
 (a:Option Addr) (l:List α) (c:Nat) (ha:GR.At enc sz w a l) (h1:∀u∈GR.flat enc l,u.oneCell'=true) (h63:n+l.length≤maxLen) (hbytes:(n+l.length)*bytes≤140737488355328) (hbase:base≤w.heap.size):
 ∃v' w',(Builtin.append_ #[t,t] ty #[v,.slice a l.length c]).run P w= .ok v' w'∧w'.ownsRow base e sz v' (n+l.length) (xs++GR.flat enc l)∧w.grownBy w' v.ownBlock∧∀x,v'.ownBlock=some x→v.ownBlock=some x∨w.heap.size≤x:=by
 by_cases hl:l.length=0
 ·have hn:l=[]:=List.eq_nil_of_length_eq_zero hl;subst hn;exact⟨v,w,run_append_zero w base t ty e i sz ht hi v n xs hown a c,by simpa [GR.flat] using hown,World.grownBy.refl _ _,fun x hx=> .inl hx⟩
 ·obtain⟨g,off,rfl,_⟩:=ha 0 (by omega);exact run_append_where w base t ty e i z sz bytes ht hi hz0 hsize hby hzs hz v n xs hown ⟨g,off,none⟩ l.length c (GR.flat enc l) (GR.flat_length enc sz hs l) (newsG hs hz ha) h1 h63 hbytes hbase
theorem run_copy_row {P:Program} {α:Type} {enc:α→List Value} {sz:Nat} (hs:∀x,(enc x).length=sz) (hz:0 < sz) (w:World) (t e:TypeId) (i:TypeInfo) (z:Value) (bytes:Nat) (ht:P.underlying t=some (.slice e)) (hi:P.info? e=some i) (hz0:i.zero=some z)
 (hsize:i.size=sz) (hby:i.bytes=bytes) (hzs:z.cells.size=sz) (a:Option Addr) (l:List α) (c:Nat) (ha:GR.At enc sz w a l) (h1:∀u∈GR.flat enc l,u.oneCell'=true) (h63:l.length≤maxLen) (hbytes:l.length*bytes≤140737488355328):
 ∃a' c' w',(∀ty,(Builtin.append_ #[t,t] ty #[.slice (some ⟨w.heap.size,0,none⟩) 0 0,.slice a l.length c]).run P (w.alloc (.cells #[] e))= .ok (.slice a' l.length c') w')∧w'.ownsRow w.heap.size e sz (.slice a' l.length c') l.length (GR.flat enc l)∧Below w.heap.size w w'∧(∃g,a'=some ⟨g,0,none⟩)∧l.length≤c':=by
 have hlit:(w.alloc (.cells #[] e)).ownsRow w.heap.size e sz (.slice (some ⟨w.heap.size,0,none⟩) 0 0) 0 []:=World.ownsRow_lit (base:=w.heap.size) (e:=e) (size:=sz) w #[] 0 (Nat.le_refl _) (by unfold maxLen;omega) (by simp);by_cases hl0:l.length=0
 ·have hn:l=[]:=List.eq_nil_of_length_eq_zero hl0;subst hn;refine⟨some ⟨w.heap.size,0,none⟩,0,w.alloc (.cells #[] e),fun ty=>run_append_zero (w.alloc (.cells #[] e)) w.heap.size t ty e i sz ht hi _ 0 [] hlit a c,hlit,below_one w _,⟨_,rfl⟩,Nat.le_refl _⟩
 ·obtain⟨v',w',hr,ho,hg,_⟩:=run_append_row (P:=P) hs hz (w.alloc (.cells #[] e)) w.heap.size t 0 e i z bytes ht hi hz0 hsize hby hzs _ 0 [] hlit a l c (GR.At.below ha (below_one w _)) h1 (by omega) (by rw [Nat.zero_add];exact hbytes) (by simp);rw [Nat.zero_add,List.nil_append] at ho;obtain⟨a',c',rfl,_⟩:=GR.own_at (enc:=enc) (sz:=sz) hs ho;refine⟨a',c',w',fun ty=>hr,ho,(below_one w _).grown hg (by simp) (fun k hk=>by cases hk;exact Nat.le_refl _),?_⟩;rcases ho.2 with⟨_,hn⟩|⟨g,cap,cur,hv,_,_,hnc,_⟩
  ·omega
  ·simp only[Value.slice.injEq] at hv;exact⟨⟨g,hv.1⟩,by rw [hv.2.2];exact hnc⟩
theorem wpList_append_eq {P:Program} {w:World} {ops:Array Oper} {rest:List Oper} {o:Oper} {a:Act} {Q:Exit→Act→World→Prop} (hgd:o.guard=none) (s x:Operand) (t:TypeId)
 (ho:o.op= .call {callee:= .builtin .append,args:=#[s,x],argTypes:=#[t,t]}) (vs vx:Value) (hs:a.eval s=vs) (hx:a.eval x=vx) (v':Value) (w':World) (hrun:(Builtin.append_ #[t,t] o.type #[vs,vx]).run P w= .ok v' w')
 (h:wpList P ops Q rest (a.put o.dst v') w'):wpList P ops Q (o::rest) a w:=by
 refine wpList_plain hgd fun K hK=>?_
 unfold Oper.wp;simp[execOp,ho,resolve,invoke,builtin,hs,hx,hrun,Result.andThen];exact hK _ _ h
set_option maxHeartbeats 1000000
set_option maxRecDepth 100000
theorem l03Copy (a:Option Addr) (cap:Nat) (l:List Pu) (w:World) (hl:l.length≤1048600) (hn:a=none→l.length=0∧cap=0) (ha:PursesAt w a l):
 Calls Tryz.prog 115 #[.slice a l.length cap] w fun e w'=>∃v,e= .returned v∧v≠ .slice none 0 0∧w'.ownsRow w.heap.size 141 4 v l.length (GR.flat encP l)∧Below w.heap.size w w':=by
 obtain⟨i0,hi,hz0,hz1,hz2⟩:=info_parts infoPu;have hlit:(w.alloc (.cells #[] 141)).ownsRow w.heap.size 141 4 (.slice (some ⟨w.heap.size,0,none⟩) 0 0) 0 []:=World.ownsRow_lit (base:=w.heap.size) (e:=141) (size:=4) w #[] 0 (Nat.le_refl _) (by decide) rfl;cases a with
 |none=>
  obtain⟨h1,h2⟩:=hn rfl
  have hl0:l=[]:=List.eq_nil_of_length_eq_zero h1
  subst hl0 h2
  go_enter Tryz.func115,Tryz.ntmps115
  go_wp2_with (at_builtin;refine wpList_append_own_none rfl _ _ 25 rfl w.heap.size 141 i0 4 Tryz.underlying25 hi _ 0 [] rfl hlit rfl ?_)
  go_ret
  exact⟨_,rfl,(by intro h;cases h),hlit,below_one' w _⟩
 |some x=>
  have HN:=hide (PursesAt.news (GR.At.below ha (below_one' w (.cells #[] 141))))
  clear ha
  go_enter Tryz.func115,Tryz.ntmps115
  go_wp2_with (at_builtin;refine wpList_append_own _ rfl _ _ 25 rfl w.heap.size 141 i0 (.agg #[.string ByteArray.empty,.int .i64 0,.int .i64 0,.int .i64 0]) 4 40 Tryz.underlying25 hi hz0 hz1 hz2 rfl (by decide) _ 0 [] rfl hlit x l.length cap (GR.flat encP l) rfl ?c0 ?c1 ?c2 ?c3 ?c4 ?c5 ?_)
  case c0=>exact GR.flat_length encP 4 encP_length l
  case c1=>exact HN
  case c2=>exact encP_one l
  case c3=>unfold maxLen;omega
  case c4=>omega
  case c5=>simp
  intro v' w1 hown' hgrow hnil
  have HNN:=hide (show v'≠ .slice none 0 0 from hnil)
  have HO:=hide (show w1.ownsRow w.heap.size 141 4 v' l.length (GR.flat encP l) by simpa using hown')
  have hb:Below w.heap.size w w1:=(below_one' w _).grown hgrow (by simp) (fun k hk=>by cases hk;exact Nat.le_refl _)
  clear hown' hgrow hlit hnil
  go_wp2
  go_ret
  exact⟨_,rfl,HNN,HO,hb⟩
end Go.Proofs.YtppmcficiphgdaaGreatDoor
