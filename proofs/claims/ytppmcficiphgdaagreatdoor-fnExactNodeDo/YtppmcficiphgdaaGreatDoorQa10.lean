/-
  PuI, Fours, PuI3, PmErr, PmMap, PmPut, PmShelf, PmMath.
-/
import Derived.Test.YtppmcficiphgdaaGreatDoorQa2
import Derived.Test.YtppmcficiphgdaaGreatDoorQa9
import Derived.Test.YtppmcficiphgdaaGreatDoorQa8
import Derived.Test.YtppmcficiphgdaaGreatDoorQaZ3
import Derived.Test.YtppmcficiphgdaaGreatDoorQa1
import Derived.Deep.RegionHeld
import Derived.Deep.DeepCutAuto
import Derived.Lib.QuietBelow
import Derived.BigQuiet
import Derived.Laws.Cover1
import Derived.LaidEql
import Derived.Stop.Asserts
import Derived.RowKitTokens
import Derived.Below
import Derived.Maps.OwnSet
import Derived.Maps.OwnOps
import Derived.Deep.RegionWith
import Derived.Shelf.Spec.SearchS
import Derived.Shelf.Spec.SlicesInsert
import Derived.Shelf.Spec.SlicesInsertGrow
namespace Go.Proofs.YtppmcficiphgdaaGreatDoor
set_option maxHeartbeats 2000000
set_option maxRecDepth 100000
open Go.RowKit
open Mth
theorem implAm (n:Int) (w:World):Calls Tryz.prog 156 #[.int .i64 n] w fun e w'=>e= .returned (.bool (decide (Inn n 0 1000000000)))∧w=w':=by
 by_cases h0:0≤n
 ·by_cases h1:n≤1000000000
  ·rw [decide_eq_true (show Inn n 0 1000000000 from⟨h0,h1⟩)];exact Za75
  ·rw [decide_eq_false (show¬Inn n 0 1000000000 from fun h=>h1 h.2)];exact Za75
 ·rw [decide_eq_false (show¬Inn n 0 1000000000 from fun h=>h0 h.1)];exact Za75
theorem implAmB (n:Int) (b:Bool) (w:World) (h:amB n=b):Calls Tryz.prog 156 #[.int .i64 n] w fun e w'=>e= .returned (.bool b)∧w=w':=by
 have e:decide (Inn n 0 1000000000)=b:=h;rw [←e];exact implAm n w
theorem implKeyB (s:ByteArray) (b:Bool) (w:World) (h:keyOk s.data.toList=b):Calls Tryz.prog 153 #[.string s] w fun e w'=>e= .returned (.bool b)∧w=w':=by
 rw [←h];exact implKeyOk s w
theorem implPuOk (p:Pu) (w:World):Calls Tryz.prog 151 #[puv p] w fun e w'=>e= .returned (.bool (puOk p))∧Below w.heap.size w w':=by
 obtain⟨pk,pm,pf,ps⟩:=p;cases hk:keyOk pk.data.toList
 case' false=>
  have HP:=hide (show puOk ⟨pk,pm,pf,ps⟩=false by simp[puOk,hk])
  have HK:=hide (fun w1=>implKeyB pk false w1 hk)
  clear hk
  go_enter Tryz.func151,Tryz.ntmps151
  go_wp2_with (go_at_call 153;refine(HK _).mono ?_;rintro e w1 ⟨rfl,rfl⟩)
  go_ret
  exact⟨ret_bool HP.symm,below_one' w _⟩
 have HK:=hide (fun w1=>implKeyB pk true w1 hk);cases h1:amB pm
 case' false=>
  have HP:=hide (show puOk ⟨pk,pm,pf,ps⟩=false by simp[puOk,h1])
  have H1:=hide (fun w1=>implAmB pm false w1 h1)
  clear hk h1
  go_enter Tryz.func151,Tryz.ntmps151
  go_wp2_with (first|(go_at_call 153;refine(HK _).mono ?_;rintro e w1 ⟨rfl,rfl⟩)|(go_at_call 156;refine(H1 _).mono ?_;rintro e w1 ⟨rfl,rfl⟩))
  go_ret
  exact⟨ret_bool HP.symm,below_one' w _⟩
 have H1:=hide (fun w1=>implAmB pm true w1 h1);cases h2:amB pf
 case' false=>
  have HP:=hide (show puOk ⟨pk,pm,pf,ps⟩=false by simp[puOk,h2])
  have H2:=hide (fun w1=>implAmB pf false w1 h2)
  clear hk h1 h2
  go_enter Tryz.func151,Tryz.ntmps151
  go_wp2_with (first|(go_at_call 153;refine(HK _).mono ?_;rintro e w1 ⟨rfl,rfl⟩)|(go_at_call_of 156 pm;refine(H1 _).mono ?_;rintro e w1 ⟨rfl,rfl⟩)|(go_at_call_of 156 pf;refine(H2 _).mono ?_;rintro e w1 ⟨rfl,rfl⟩))
  go_ret
  exact⟨ret_bool HP.symm,below_one' w _⟩
 have H2:=hide (fun w1=>implAmB pf true w1 h2);cases h3:amB ps
 case' false=>
  have HP:=hide (show puOk ⟨pk,pm,pf,ps⟩=false by simp[puOk,h3])
  have H3:=hide (fun w1=>implAmB ps false w1 h3)
  clear hk h1 h2 h3
  go_enter Tryz.func151,Tryz.ntmps151
  go_wp2_with (first|(go_at_call 153;refine(HK _).mono ?_;rintro e w1 ⟨rfl,rfl⟩)|(go_at_call_of 156 pm;refine(H1 _).mono ?_;rintro e w1 ⟨rfl,rfl⟩)|(go_at_call_of 156 pf;refine(H2 _).mono ?_;rintro e w1 ⟨rfl,rfl⟩)|(go_at_call_of 156 ps;refine(H3 _).mono ?_;rintro e w1 ⟨rfl,rfl⟩))
  go_ret
  exact⟨ret_bool HP.symm,below_one' w _⟩
 have H3:=hide (fun w1=>implAmB ps true w1 h3);have g2:0≤pf∧pf≤1000000000:=of_decide_eq_true h2;have g3:0≤ps∧ps≤1000000000:=of_decide_eq_true h3;obtain⟨g20,g21⟩:=g2;obtain⟨g30,g31⟩:=g3;have HP:=hide (show puOk ⟨pk,pm,pf,ps⟩=amB (pf+ps) by simp[puOk,hk,h1,h2,h3]);have H4:=hide (fun w1=>implAmB (pf+ps) _ w1 rfl);clear hk h1 h2 h3;go_enter Tryz.func151,Tryz.ntmps151
 go_wp2_with (first|(go_at_call 153;refine(HK _).mono ?_;rintro e w1 ⟨rfl,rfl⟩)|(go_at_call_of 156 pm;refine(H1 _).mono ?_;rintro e w1 ⟨rfl,rfl⟩)|(go_at_call_of 156 pf;refine(H2 _).mono ?_;rintro e w1 ⟨rfl,rfl⟩)|(go_at_call_of 156 ps;refine(H3 _).mono ?_;rintro e w1 ⟨rfl,rfl⟩)|(go_at_call_of 156 (pf+ps);refine(H4 _).mono ?_;rintro e w1 ⟨rfl,rfl⟩))
 go_ret;exact⟨ret_bool HP.symm,below_one' w _⟩
namespace Fo
open Go.RowKit
theorem two_blocks {w w1:World} {A B:Obj} (hb:Below ((w.alloc A).alloc B).heap.size ((w.alloc A).alloc B) w1):
 w1.heap[w.heap.size]?=some A∧w1.heap[w.heap.size+1]?=some B∧w.heap.size+1 < w1.heap.size∧Below w.heap.size w w1:=by
 have hs:((w.alloc A).alloc B).heap.size=w.heap.size+1+1:=by simp
 have hz:=hb.size;refine⟨?_,?_,by omega,(((Below.refl _ _).alloc (Nat.le_refl _) _).alloc (by simp) _).trans (hb.mono (by omega))⟩
 ·rw [hb.block _ (by omega),Below.heap_alloc _ _ _ (by simp)];exact heap_alloc_new w A
 ·rw [hb.block _ (by omega)];have h:=heap_alloc_new (w.alloc A) B;rwa [show(w.alloc A).heap.size=w.heap.size+1 by simp] at h
theorem one_block {w w1:World} {A:Obj} (hb:Below (w.alloc A).heap.size (w.alloc A) w1):
 w1.heap[w.heap.size]?=some A∧w.heap.size < w1.heap.size∧Below w.heap.size w w1:=by
 have hs:(w.alloc A).heap.size=w.heap.size+1:=by simp
 have hz:=hb.size;refine⟨?_,by omega,((Below.refl _ _).alloc (Nat.le_refl _) _).trans (hb.mono (by omega))⟩;rw [hb.block _ (by omega)];exact heap_alloc_new w A
theorem blk_set {w:World} {c:Nat} {cs:Array Value} {t:TypeId} (h:w.heap[c]?=some (.cells cs t (0,0))) (i:Nat) (v:Value):(w.setCell ⟨c,i,none⟩ v).heap[c]?=some (.cells (cs.setIfInBounds i v) t (0,0)):=by
 exact Za71
theorem four_set {w:World} {g:Nat} {a0 a1 a2 a3 b0 b1 b2 b3:Value} {t:TypeId} (h:w.heap[g]?=some (.cells #[a0,a1,a2,a3] t (0,0))):
 ((((w.setCell ⟨g,0,none⟩ b0).setCell ⟨g,1,none⟩ b1).setCell ⟨g,2,none⟩ b2).setCell ⟨g,3,none⟩ b3).heap[g]?=some (.cells #[b0,b1,b2,b3] t (0,0)):=
 blk_set (blk_set (blk_set (blk_set h 0 b0) 1 b1) 2 b2) 3 b3
theorem four_below {a w:World} {B g:Nat} {b0 b1 b2 b3:Value} (h:Below B a w) (hg:B≤g):
 Below B a ((((w.setCell ⟨g,0,none⟩ b0).setCell ⟨g,1,none⟩ b1).setCell ⟨g,2,none⟩ b2).setCell ⟨g,3,none⟩ b3):=
 (((h.setCell (p:=⟨g,0,none⟩) hg b0).setCell (p:=⟨g,1,none⟩) hg b1).setCell (p:=⟨g,2,none⟩) hg b2).setCell (p:=⟨g,3,none⟩) hg b3
theorem one_other {w:World} {g g' i:Nat} {v:Value} {o:Option Obj} (h:w.heap[g']?=o) (hne:g'≠g):(w.setCell ⟨g,i,none⟩ v).heap[g']?=o:=by
 rw [Below.heap_setCell _ _ _ _ hne,h]
theorem bodyPost_at {P:Program} {fn:Func} {Q:Ending→World→Prop} {x:Exit} {act:Act} {W:World} (h:∀W',W'=W→bodyPost P fn Q x act W'):bodyPost P fn Q x act W:=h W rfl
theorem wp_at {P:Program} {c:Code} {Q:Exit→Act→World→Prop} {a:Act} {W:World} (h:∀W',W'=W→Code.wp P c Q a W'):Code.wp P c Q a W:=h W rfl
theorem lt_of_blk {w:World} {g:Nat} {o:Obj} (h:w.heap[g]?=some o):g < w.heap.size:=by
 exact Za49
theorem setCell_size (w:World) (p:Addr) (v:Value):(w.setCell p v).heap.size=w.heap.size:=by
 unfold World.setCell;simp
end Fo
set_option maxHeartbeats 4000000
theorem implPuOkB (p:Pu) (b:Bool) (w:World) (h:puOk p=b):Calls Tryz.prog 151 #[puv p] w fun e w'=>e= .returned (.bool b)∧Below w.heap.size w w':=by
 rw [←h];exact implPuOk p w
theorem less_sle (a b:ByteArray):Op.bytesLess b.toList a.toList= !sle a b:=by
 cases h:sle a b
 ·exact(less_iff _ _).2 ((sle_false_iff a b).1 h)
 ·cases h2:Op.bytesLess b.toList a.toList
  ·rfl
  ·rw [(sle_false_iff a b).2 ((less_iff _ _).1 h2)] at h;cases h
theorem implPursesOk (a:Option Addr) (cap:Nat) (l:List Pu) (w:World) (hl:l.length≤1048600) (ha:PursesAt w a l):
 Calls Tryz.prog 99 #[.slice a l.length cap] w fun e w'=>e= .returned (.bool (psOk l))∧Below w.heap.size w w':=by
 by_cases h20:l.length≤20
 ·have HA:=hide ha;clear ha;have hg20:decide (20 < (l.length:Int))=false:=decide_eq_false (by omega);go_enter Tryz.func99,Tryz.ntmps99
  go_wp2_with fail;go_loopw [10] (fun i wr=>∃k:Nat,k≤l.length∧i= .int .i64 k∧(List.range k).all (okAt l)=true∧Below w.heap.size w wr) (fun i _=>l.length - (intOf i).toNat)
  case atStart=>exact Za110
  case round=>
   obtain⟨k,hk,rfl,hall,hbel⟩:=hrel;have HBL:=hide hbel;have HALL:=hide hall;clear hall hbel;by_cases hlt:k < l.length
   ·open Sa90 in exact Ya20
   ·exact Za34
 ·have HF:=hide (show psOk l=false by unfold psOk;simp[h20]);have hg20:decide (20 < (l.length:Int))=true:=decide_eq_true (by omega);clear ha;go_enter Tryz.func99,Tryz.ntmps99
  go_wp2_with fail;go_ret;exact⟨ret_bool HF.symm,Below.refl _ _⟩
open Go.RowKit Go.Extern.Stop Go.Stop Go.Extern
structure Errs (w:World) (E:Nat→Addr):Prop where
 var:∀i,i < 5→w.cell? ⟨i,0,none⟩=some (.iface 342 (.pointer (some (E i))))
 row:∀i,i < 5→∃c t,w.heap[(E i).block]?=some (.cells c t (0,0))
 ne:∀i j,i < 5→j < 5→i≠j→E i≠E j
theorem Errs.below {w w':World} {E:Nat→Addr} (h:Errs w E) (hb:Below w.heap.size w w'):Errs w' E:=by
 refine⟨fun i hi=>?_,fun i hi=>?_,h.ne⟩
 ·rw [hb.cell (p:=⟨i,0,none⟩) (World.block_lt_of_cell? _ _ (h.var i hi))];exact h.var i hi
 ·obtain⟨c,t,hc⟩:=h.row i hi;refine⟨c,t,?_⟩;rw [hb.block _ ?_]
  ·exact hc
  ·rcases Nat.lt_or_ge (E i).block w.heap.size with h'|h'
   ·exact h'
   ·rw [Array.getElem?_eq_none h'] at hc;cases hc
abbrev errV (a:Addr):Value:= .iface 342 (.pointer (some a))
namespace Is
theorem typeOf (v:Value) (w:World):(Extern.ReflectliteType.typeOf #[.iface 342 v]).run Tryz.prog w= .ok (.iface 319 (.agg #[.pointer (some ⟨6,342,none⟩)])) w:=by kernel_rfl
def cmp:Array Value→Sem Value:=Extern.ReflectliteType.method fun t=>do Extern.Rtype.noPackHeld "Comparable" t;pure (.bool (←typeInfo t).comparable)
theorem comparable (w:World):(cmp #[.agg #[.pointer (some ⟨6,342,none⟩)]]).run Tryz.prog w= .ok (.bool true) w:=by kernel_rfl
theorem methodComparable (v:Value) (w:World):(Go.method 471 319 v "Comparable").run Tryz.prog w= .ok (312,v) w:=by kernel_rfl
theorem comp:(Tryz.prog.info? 342).map (·.comparable)=some true:=by kernel_rfl
theorem size:(Tryz.prog.info? 360).map (·.size)=some 1:=by kernel_rfl
theorem noIs (v:Value) (xT:TypeId) (w:World):(Instr.typeAssert (.iface 342 v) xT 336 true).run Tryz.prog w= .ok (.tuple #[.nilIface,.bool false]) w:=run_typeAssert_lacksB Tryz.underlying336 (by kernel_rfl) (by kernel_rfl) v xT w
theorem noUnwrap (v:Value) (xT:TypeId) (w:World):(Instr.typeAssert (.iface 342 v) xT 326 true).run Tryz.prog w= .ok (.tuple #[.nilIface,.bool false]) w:=run_typeAssert_lacksB Tryz.underlying326 (by kernel_rfl) (by kernel_rfl) v xT w
theorem noUnwraps (v:Value) (xT:TypeId) (w:World):(Instr.typeAssert (.iface 342 v) xT 328 true).run Tryz.prog w= .ok (.tuple #[.nilIface,.bool false]) w:=run_typeAssert_lacksB Tryz.underlying328 (by kernel_rfl) (by kernel_rfl) v xT w
end Is
theorem is_same (a:Addr) (w:World):Calls Tryz.prog 247 #[errV a,errV a] w fun e w'=>e= .returned (.bool true)∧w=w':=by
 open Sa174 in exact Ya40
theorem is_nil (b:Addr) (w:World):Calls Tryz.prog 247 #[.nilIface,errV b] w fun e w'=>e= .returned (.bool false)∧w=w':=by
 have hn:=run_eql_iface_nil_left (P:=Tryz.prog) w 342 (.pointer (some b)) Tryz.underlying230;go_enter Tryz.func247,Tryz.ntmps247
 go_wp2
 go_ret;exact⟨rfl,rfl⟩
theorem is_other (a b:Addr) (ca cb:Array Value) (ta tb:TypeId) (w:World) (hne:a≠b) (ha:w.heap[a.block]?=some (.cells ca ta (0,0))) (hb:w.heap[b.block]?=some (.cells cb tb (0,0))):
 Calls Tryz.prog 247 #[errV a,errV b] w fun e w'=>e= .returned (.bool false)∧w=w':=by
 open Sa173 in exact Ya40
theorem is_at {w:World} {E:Nat→Addr} (h:Errs w E) (i j:Nat) (b:Bool) (hi:i < 5) (hj:j < 5) (hb:(i == j)=b):Calls Tryz.prog 247 #[errV (E i),errV (E j)] w fun e w'=>e= .returned (.bool b)∧w=w':=by
 cases b with
 |true=>
  have e:i=j:=by simpa using hb
  subst e
  exact is_same (E i) w
 |false=>
  obtain⟨c1,t1,h1⟩:=h.row i hi
  obtain⟨c2,t2,h2⟩:=h.row j hj
  exact is_other (E i) (E j) c1 c2 t1 t2 w (h.ne i j hi hj (by simpa using hb)) h1 h2
open Go.RowKit Go.Maps
namespace Mth
def nothing (p:Pu):Bool:=p.m == 0&&p.f == 0&&p.s == 0
theorem nothing_iff (p:Pu):nothing p=true↔p.m=0∧p.f=0∧p.s=0:=by unfold nothing;simp[and_assoc]
def upd (G:ByteArray→Pu) (p:Pu):ByteArray→Pu:=fun k=>if k=p.k then p else G k
end Mth
def puElem:Value→Option (DataW Unit×List MemPlace)
 | .agg ⟨[.string k,.int .i64 m,.int .i64 f,.int .i64 s]⟩=>some (.agg [.lit (.string k.data.toList),.lit (.int .i64 m),.lit (.int .i64 f),.lit (.int .i64 s)],[])
 |_=>none
def puDatum (p:Pu):DataW Unit:= .agg [.lit (.string p.k.data.toList),.lit (.int .i64 p.m),.lit (.int .i64 p.f),.lit (.int .i64 p.s)]
theorem puElem_mk (p:Pu):puElem (puv p)=some (puDatum p,[]):=rfl
theorem puElem_inv {v:Value} {p:Pu} {ps:List MemPlace} (h:puElem v=some (puDatum p,ps)):v=puv p:=by
 unfold puElem at h;split at h
 ·rename_i k m f s
  obtain⟨pk,pm,pf,ps⟩:=p;simp only[puDatum,Option.some.injEq,Prod.mk.injEq,DataW.agg.injEq,List.cons.injEq,DataW.lit.injEq,Lit.string.injEq,Lit.int.injEq,true_and,and_true] at h;obtain⟨⟨h1,h2,h3,h4⟩,_⟩:=h;subst h2 h3 h4;have e:k=pk:=ByteArray.ext (Array.toList_inj.1 h1);rw [e]
 ·cases h
abbrev klit (k:ByteArray):Lit:= .string k.data.toList
theorem klit_ne {a b:ByteArray} (h:a≠b):klit a≠klit b:=fun e=>h (by
 injection e with e
 exact ByteArray.ext (Array.toList_inj.1 e))
theorem keyLaw:Keyed Tryz.prog 9:=string_keyed Tryz.underlying9
theorem keyIs (s:ByteArray) (hs:s.size≤maxLen):keyOf Tryz.prog 9 (.string s)=some (klit s):=Go.WideMaps.keyOf_string_mk Tryz.underlying9 hs
theorem zeroPu (w:World):(zeroValue 141).run Tryz.prog w= .ok (puv ⟨ByteArray.empty,0,0,0⟩) w:=by kernel_rfl
def Agr (D:DataW Unit) (G:ByteArray→Pu):Prop:=∀k,(G k).k=k∧Maps.has D (klit k)= !nothing (G k)∧(nothing (G k)=false→∀z,D.atKey (klit k) z=puDatum (G k))
def MapIs (w:World) (mb n:Nat) (G:ByteArray→Pu):Prop:=∃D,w.ownsMap Tryz.prog 9 puElem mb n D∧Agr D G
theorem Agr.empty:Agr (.map []) (fun k=>⟨k,0,0,0⟩):=fun k=>⟨rfl,rfl,fun h=>by cases h⟩
theorem Agr.put {D:DataW Unit} {G:ByteArray→Pu} (h:Agr D G) (hD:Maps.IsMap D) (p:Pu) (hp:nothing p=false):Agr (D.put (klit p.k) (puDatum p)) (upd G p):=by
 intro k;unfold upd;by_cases e:k=p.k
 ·rw [if_pos e,e];exact⟨rfl,by rw [has_put_same hD (show WideAt.IsKeyLit (klit p.k) from trivial),hp];rfl,fun _ z=>atKey_put_same hD (show WideAt.IsKeyLit (klit p.k) from trivial) _ z⟩
 ·rw [if_neg e];obtain⟨h1,h2,h3⟩:=h k;exact⟨h1,by rw [has_put_other (klit_ne e),h2],fun hn z=>by rw [atKey_put_other (klit_ne e)];exact h3 hn z⟩
theorem Agr.del {D:DataW Unit} {G:ByteArray→Pu} (h:Agr D G) (p:Pu) (hp:nothing p=true):Agr (D.del (klit p.k)) (upd G p):=by
 intro k;unfold upd;by_cases e:k=p.k
 ·rw [if_pos e,e];exact⟨rfl,by rw [has_del_same,hp];rfl,fun hn=>by rw [hp] at hn;cases hn⟩
 ·rw [if_neg e];obtain⟨h1,h2,h3⟩:=h k;exact⟨h1,by rw [has_del_other (klit_ne e),h2],fun hn z=>by rw [atKey_del_other (klit_ne e)];exact h3 hn z⟩
theorem MapIs.made (w:World):MapIs (w.alloc (.map #[] 0)) w.heap.size 0 (fun k=>⟨k,0,0,0⟩):=⟨_,World.ownsMap_made w _ _ _,Agr.empty⟩
theorem MapIs.lt {w:World} {mb n:Nat} {G:ByteArray→Pu} (h:MapIs w mb n G):mb < w.heap.size:=h.choose_spec.1.lt
theorem MapIs.kept {w w':World} {mb n:Nat} {G:ByteArray→Pu} (h:MapIs w mb n G) (hb:w'.heap[mb]?=w.heap[mb]?):MapIs w' mb n G:=by
 exact Za115
theorem MapIs.look {w:World} {mb n:Nat} {G:ByteArray→Pu} (h:MapIs w mb n G) (k:ByteArray) (hk:k.size≤maxLen):
 (Instr.lookup 306 (.map (some mb)) (.string k) true).run Tryz.prog w= .ok (.tuple #[puv (if nothing (G k) then⟨ByteArray.empty,0,0,0⟩ else G k),.bool (!nothing (G k))]) w:=by
 obtain⟨D,hown,ha⟩:=h;obtain⟨v,ps,hrun,hv⟩:=hown.look_ok keyLaw Tryz.underlying306 (zeroPu w) (puElem_mk _) (keyIs k hk);obtain⟨_,h2,h3⟩:=ha k;rw [hrun,h2];cases hn:nothing (G k)
 ·rw [h3 hn] at hv;rw [puElem_inv hv];rfl
 ·rw [hn] at h2;rw [atKey_of_not_has h2] at hv;rw [puElem_inv hv];rfl
theorem keeps_of_turned {w w':World} {b:Nat} (h:w.mapTurned w' b):_root_.Go.Proofs.YtppmcficiphgdaaGreatDoor.Keeps b w w':=by
 have g:=h.grown;exact⟨g.os,g.tape,g.output,g.size,fun k hk hne=>g.block k hk (fun e=>hne (Option.some.inj e))⟩
theorem MapIs.store {w:World} {mb n:Nat} {G:ByteArray→Pu} (h:MapIs w mb n G) (p:Pu) (hk:p.k.size≤maxLen) (hn:n < maxLen) (hp:nothing p=false):
 ∃w',(Instr.mapUpdate 306 (.map (some mb)) (.string p.k) (puv p)).run Tryz.prog w= .ok () w'∧MapIs w' mb (n+1) (upd G p)∧Keeps mb w w':=by
 obtain⟨D,hown,ha⟩:=h;obtain⟨w',hrun,h1,h2⟩:=hown.store keyLaw Tryz.underlying306 hn (keyIs p.k hk) (puElem_mk p);exact⟨w',hrun,⟨_,h1,ha.put hown.isMap p hp⟩,keeps_of_turned h2⟩
theorem MapIs.drop {w:World} {mb n:Nat} {G:ByteArray→Pu} (h:MapIs w mb n G) (p:Pu) (hk:p.k.size≤maxLen) (hp:nothing p=true) (ty:TypeId):
 ∃w',(Builtin.delete_ #[306,9] ty #[.map (some mb),.string p.k]).run Tryz.prog w= .ok (.tuple #[]) w'∧MapIs w' mb n (upd G p)∧Keeps mb w w':=by
 obtain⟨D,hown,ha⟩:=h;obtain⟨w',hrun,h1,h2⟩:=hown.drop keyLaw Tryz.underlying306 (keyIs p.k hk) ty;exact⟨w',hrun,⟨_,h1,ha.del p hp⟩,keeps_of_turned h2⟩
set_option maxHeartbeats 2000000
theorem implNothing (p:Pu) (w:World):Calls Tryz.prog 272 #[puv p] w fun e w'=>e= .returned (.bool (nothing p))∧Below w.heap.size w w':=by
 obtain⟨pk,pm,pf,ps⟩:=p;go_enter Tryz.func272,Tryz.ntmps272
 go_wp2
 all_goals
  go_ret
  exact⟨by simp[nothing, *],below_one' w _⟩
theorem two_at {w:World} {g:Nat} {a0 a1:Value} {t:TypeId} (h:w.heap[g]?=some (.cells #[a0,a1] t (0,0))):
 (w.cell? ⟨g,0,none⟩=some a0∧w.cell? ⟨g,1,none⟩=some a1)∧(w.frozen? ⟨g,0,none⟩=false∧w.frozen? ⟨g,1,none⟩=false):=by
 have hc:∀i,w.cell? ⟨g,i,none⟩=#[a0,a1][i]?:=fun i=>cell_of_row w g i _ t (0,0) h
 have hf:∀i,w.frozen? ⟨g,i,none⟩=false:=fun i=>by unfold World.frozen?;rw [h];simp
 exact⟨⟨hc 0,hc 1⟩,hf 0,hf 1⟩
theorem MapIs.mono {w:World} {mb n n':Nat} {G:ByteArray→Pu} (h:MapIs w mb n G) (hn:n≤n'):MapIs w mb n' G:=by
 obtain⟨D,h1,h2⟩:=h;exact⟨D,h1.mono hn,h2⟩
theorem implPut (mp mb n:Nat) (v:Value) (G:ByteArray→Pu) (p:Pu) (w:World) (hk:p.k.size≤1048576) (hn:n < maxLen) (hm:w.heap[mp]?=some (.cells #[v,.map (some mb)] 308 (0,0))) (hM:MapIs w mb n G):
 Calls Tryz.prog 261 #[.pointer (some ⟨mp,0,none⟩),puv p] w fun e w'=>e= .returned (.tuple #[])∧MapIs w' mb (n+1) (upd G p)∧Keeps mb w w':=by
 have HN:=hide (fun w1=>implNothing p w1);have HM:=hide hm;have HI:=hide hM;have hkm:p.k.size≤maxLen:=by unfold maxLen;omega
 have hmp:=Fo.lt_of_blk hm;have hmb:=hM.lt;cases hno:nothing p
 ·obtain⟨pk,pm,pf,ps⟩:=p;have HST:=hide (fun w1 h=>MapIs.store (w:=w1) (mb:=mb) (n:=n) (G:=G) h ⟨pk,pm,pf,ps⟩ hkm hn hno);open Sa176 in exact Ya41
 ·obtain⟨pk,pm,pf,ps⟩:=p;have HST:=hide (fun w1 ty h=>MapIs.drop (w:=w1) (mb:=mb) (n:=n) (G:=G) h ⟨pk,pm,pf,ps⟩ hkm hno ty);open Sa175 in exact Ya41
theorem implGet (mp mb n:Nat) (v:Value) (G:ByteArray→Pu) (k:ByteArray) (w:World) (hk:k.size≤1048576) (hm:w.heap[mp]?=some (.cells #[v,.map (some mb)] 308 (0,0))) (hM:MapIs w mb n G):
 Calls Tryz.prog 262 #[.pointer (some ⟨mp,0,none⟩),.string k] w fun e w'=>e= .returned (puv (G k))∧Below w.heap.size w w':=by
 have hmp:=Fo.lt_of_blk hm;have hmb:=hM.lt;obtain⟨⟨m0,m1⟩,_⟩:=two_at hm;have hGk:=(hM.choose_spec.2 k).1;have hrun:=(MapIs.kept (w':=w.alloc (.cells #[.string ⟨#[]⟩,.int .i64 0,.int .i64 0,.int .i64 0] 141)) hM (by rw [Below.heap_alloc _ _ _ hmb])).look k (by unfold maxLen;omega);clear hm hM;cases hno:nothing (G k)
 ·rw [hno] at hrun;generalize G k=p at *;obtain⟨pk,pm,pf,ps⟩:=p;dsimp only at hGk;subst hGk;simp only[Bool.not_false,if_neg Bool.false_ne_true] at hrun;go_enter Tryz.func262,Tryz.ntmps262
  go_wp2_with fail;exact bodyPost_ret (v:= .agg #[.string pk,.int .i64 pm,.int .i64 pf,.int .i64 ps]) (by simp[results,Tryz.results262,go_sem]) rfl ⟨rfl,((Below.refl _ _).alloc (Nat.le_refl _) _).alloc (by simp) _⟩
 ·have hG0:G k=⟨k,0,0,0⟩:=by
   obtain⟨h1,h2,h3⟩:=(nothing_iff _).1 hno;generalize G k=p at *;obtain⟨pk,pm,pf,ps⟩:=p;dsimp only at hGk h1 h2 h3;rw [hGk,h1,h2,h3]
  rw [hno] at hrun;rw [hG0];clear hno hG0 hGk;simp only[Bool.not_true,if_pos] at hrun;go_enter Tryz.func262,Tryz.ntmps262
  go_wp2_with fail;exact bodyPost_ret (v:= .agg #[.string k,.int .i64 0,.int .i64 0,.int .i64 0]) (by simp[results,Tryz.results262,go_sem]) rfl ⟨rfl,((Below.refl _ _).alloc (Nat.le_refl _) _).alloc (by simp) _⟩
open Go.Shelf Go.Proofs
def shRen:Go.Shelf.Ren:=⟨fun|17=>281|22=>274|29=>277|30=>278|36=>280|26=>273|33=>275|34=>276|38=>279|n=>n,fun|0=>0|3=>3|4=>4|9=>9|24=>130|40=>203|n=>n,fun n=>n⟩
theorem laysInsert:Lays2.n22 Tryz.prog shRen:={
 mixed:=by kernel_rfl
 f17:=Tryz.func281.trans (congrArg some (by kernel_rfl))
 f22:=Tryz.func274.trans (congrArg some (by kernel_rfl))
 f29:=Tryz.func277.trans (congrArg some (by kernel_rfl))
 f30:=Tryz.func278.trans (congrArg some (by kernel_rfl))
 f36:=Tryz.func280.trans (congrArg some (by kernel_rfl))
 t0:=Tryz.underlying0
 a0:=Tryz.isAgg0
 z0:=Tryz.sizeOf0
 v0:=Tryz.zeroValue0
 t3:=Tryz.underlying3
 a3:=Tryz.isAgg3
 z3:=Tryz.sizeOf3
 v3:=Tryz.zeroValue3
 t4:=Tryz.underlying4
 a4:=Tryz.isAgg4
 z4:=Tryz.sizeOf4
 v4:=Tryz.zeroValue4
 t9:=Tryz.underlying9
 a9:=Tryz.isAgg9
 z9:=Tryz.sizeOf9
 v9:=Tryz.zeroValue9
 t24:=Tryz.underlying130
 a24:=Tryz.isAgg130
 z24:=Tryz.sizeOf130
 v24:=Tryz.zeroValue130
 i9:=by kernel_rfl}
theorem laysSearch:Lays2.n26 Tryz.prog shRen:={
 mixed:=by kernel_rfl
 f26:=Tryz.func273.trans (congrArg some (by kernel_rfl))
 f33:=Tryz.func275.trans (congrArg some (by kernel_rfl))
 f34:=Tryz.func276.trans (congrArg some (by kernel_rfl))
 f38:=Tryz.func279.trans (congrArg some (by kernel_rfl))
 t0:=Tryz.underlying0
 a0:=Tryz.isAgg0
 z0:=Tryz.sizeOf0
 v0:=Tryz.zeroValue0
 t3:=Tryz.underlying3
 a3:=Tryz.isAgg3
 z3:=Tryz.sizeOf3
 v3:=Tryz.zeroValue3
 t4:=Tryz.underlying4
 a4:=Tryz.isAgg4
 z4:=Tryz.sizeOf4
 v4:=Tryz.zeroValue4
 t9:=Tryz.underlying9
 a9:=Tryz.isAgg9
 z9:=Tryz.sizeOf9
 v9:=Tryz.zeroValue9
 t24:=Tryz.underlying130
 a24:=Tryz.isAgg130
 z24:=Tryz.sizeOf130
 v24:=Tryz.zeroValue130
 t40:=Tryz.underlying203
 a40:=Tryz.isAgg203
 z40:=Tryz.sizeOf203
 v40:=Tryz.zeroValue203}
namespace Mth
theorem toList_inj {a b:ByteArray} (h:a.toList=b.toList):a=b:=by
 rw [ByteArray.toList_eq,ByteArray.toList_eq] at h;exact ByteArray.ext (Array.toList_inj.1 h)
theorem purseOf_k (l:List Pu) (k:ByteArray):(purseOf l k).k=k:=by
 unfold purseOf;cases h:l.find? (fun p=>p.k.toList == k.toList) with
 |none=>rfl
 |some q=>
  have:=List.find?_some h
  exact toList_inj (by simpa using this)
theorem purseOf_mem {l:List Pu} (hp:l.Pairwise klt) {q:Pu} (hq:q∈l):purseOf l q.k=q:=by
 unfold purseOf
 have:l.find? (fun p=>p.k.toList == q.k.toList)=some q:=by
  induction l with
  |nil=>simp at hq
  |cons x r ih=>
   rw [List.find?_cons]
   rcases List.mem_cons.1 hq with rfl|hq'
   ·simp
   ·have hx:x.k.toList < q.k.toList:=(List.pairwise_cons.1 hp).1 q hq'
    have hne:(x.k.toList == q.k.toList)=false:=by
     rw [beq_eq_false_iff_ne];intro e;rw [e] at hx;exact List.lt_irrefl _ hx
    rw [hne];exact ih (List.pairwise_cons.1 hp).2 hq'
 rw [this];rfl
theorem purseOf_none {l:List Pu} {k:ByteArray} (h:∀q∈l,q.k≠k):purseOf l k=⟨k,0,0,0⟩:=by
 unfold purseOf
 have:l.find? (fun p=>p.k.toList == k.toList)=none:=by
  rw [List.find?_eq_none];intro q hq;simp only[beq_iff_eq];exact fun e=>h q hq (toList_inj e)
 rw [this];rfl
theorem lt_ne {a b:ByteArray} (h:a.toList < b.toList):a≠b:=fun e=>by rw [e] at h;exact List.lt_irrefl _ h
theorem put_map {l:List Pu} (hp:l.Pairwise klt) (p:Pu):(putP l p).map (fun q=>upd (purseOf l) p q.k)=putP l p:=by
 have:∀q∈putP l p,upd (purseOf l) p q.k=q:=by
  intro q hq;unfold putP at hq;unfold upd;rcases List.mem_append.1 hq with hq|hq
  ·rw [if_neg (lt_ne (head_lt hq))];exact purseOf_mem hp ((List.takeWhile_sublist _).mem hq)
  ·rcases List.mem_cons.1 hq with rfl|hq
   ·rw [if_pos rfl]
   ·rw [if_neg (Ne.symm (lt_ne (tail_gt hp q hq)))];exact purseOf_mem hp ((List.dropWhile_sublist _).mem (tail_sub l p.k q hq))
 exact(List.map_congr_left (g:=id) this).trans (List.map_id _)
def place (l:List Pu) (k:ByteArray):Nat:=(headP l k).length
theorem place_le (l:List Pu) (k:ByteArray):place l k≤l.length:=by
 have h:=congrArg List.length (head_from l k);rw [List.length_append] at h;unfold place;omega
theorem head_take (l:List Pu) (k:ByteArray):headP l k=l.take (place l k):=by
 have h:=head_from l k;have:(headP l k++fromP l k).take (place l k)=headP l k:=by unfold place;simp
 rw [h] at this;exact this.symm
theorem from_drop (l:List Pu) (k:ByteArray):fromP l k=l.drop (place l k):=by
 have h:=head_from l k;have:(headP l k++fromP l k).drop (place l k)=fromP l k:=by unfold place;simp
 rw [h] at this;exact this.symm
def found (l:List Pu) (k:ByteArray):Bool:=match fromP l k with
 |[]=>false
 |q::_=>q.k.toList == k.toList
theorem put_keys_found {l:List Pu} {p:Pu} (h:found l p.k=true):(putP l p).map (·.k)=l.map (·.k):=by
 have hl:=head_from l p.k;unfold found at h;unfold putP tailP;cases hf:fromP l p.k with
 |nil=>rw [hf] at h;cases h
 |cons q r=>
  rw [hf] at h hl
  dsimp only at h ⊢
  rw [if_pos h]
  rw [←hl]
  have e:q.k=p.k:=toList_inj (by simpa using h)
  simp[headP,e]
  rw [show List.takeWhile (fun q=>Op.bytesLess q.k.toList p.k.toList) l=headP l p.k from rfl,hl]
  rfl
theorem put_length_found {l:List Pu} {p:Pu} (h:found l p.k=true):(putP l p).length=l.length:=by
 have:=congrArg List.length (put_keys_found h);simpa using this
theorem put_not_found {l:List Pu} {p:Pu} (h:found l p.k=false):putP l p=l.take (place l p.k)++p::l.drop (place l p.k):=by
 unfold putP;rw [head_take,←from_drop];congr 2
 unfold found at h;unfold tailP;cases hf:fromP l p.k with
 |nil=>rfl
 |cons q r=>
  rw [hf] at h
  dsimp only at h ⊢
  rw [h]
  rfl
theorem put_length_not {l:List Pu} {p:Pu} (h:found l p.k=false):(putP l p).length=l.length+1:=by
 rw [put_not_found h];have:=place_le l p.k;simp;omega
def keyAt (l:List Pu) (k:ByteArray) (t:Nat):ByteArray:=(l[t]?).elim k (·.k)
theorem bs_place {l:List Pu} (hp:l.Pairwise klt) (k:ByteArray):Lib.bsGo (fun t=>Op.bytesLess (keyAt l k t).toList k.toList) l.length 0 l.length=place l k:=by
 refine Lib.bsGo_spec _ (place l k) ?_ ?_ _ _ _ (by omega) (Nat.zero_le _) (place_le l k)
 ·intro t ht;have ht2:t < l.length:=Nat.lt_of_lt_of_le ht (place_le l k)
  have hm:l[t]∈headP l k:=by
   rw [head_take];exact List.mem_take_iff_getElem.2 ⟨t,by omega,rfl⟩
  unfold keyAt;rw [List.getElem?_eq_getElem ht2];exact(less_iff _ _).2 (head_lt hm)
 ·intro t ht;by_cases ht2:t < l.length
  ·unfold keyAt;rw [List.getElem?_eq_getElem ht2];show Op.bytesLess l[t].k.toList k.toList=false
   rw [Bool.eq_false_iff];intro hlt;have hlt':=(less_iff _ _).1 hlt;have hp0:place l k < l.length:=by omega
   have hf:fromP l k=l[place l k]::l.drop (place l k+1):=by rw [from_drop,List.drop_eq_getElem_cons hp0]
   have h1:=from_head l k _ _ hf;rcases Nat.lt_or_ge (place l k) t with h|h
   ·have h2:l[place l k].k.toList < l[t].k.toList:=List.pairwise_iff_getElem.1 hp _ _ hp0 ht2 h;exact h1 (List.lt_trans h2 hlt')
   ·have e:t=place l k:=by omega
    subst e;exact h1 hlt'
  ·unfold keyAt;rw [List.getElem?_eq_none (by omega)];show Op.bytesLess k.toList k.toList=false
   rw [Bool.eq_false_iff];intro h;exact List.lt_irrefl _ ((less_iff _ _).1 h)
theorem bs_found (l:List Pu) (k:ByteArray):decide (place l k < l.length∧keyAt l k (place l k)=k)=found l k:=by
 by_cases h:place l k < l.length
 ·have hf:fromP l k=l[place l k]::l.drop (place l k+1):=by rw [from_drop,List.drop_eq_getElem_cons h]
  have hfo:found l k=(l[place l k].k.toList == k.toList):=by unfold found;rw [hf]
  have hka:keyAt l k (place l k)=l[place l k].k:=by unfold keyAt;rw [List.getElem?_eq_getElem h];rfl
  rw [hfo,Bool.eq_iff_iff,decide_eq_true_iff,beq_iff_eq,hka];exact⟨fun e=>by rw [e.2],fun e=>⟨h,toList_inj e⟩⟩
 ·have hf:fromP l k=[]:=by rw [from_drop];exact List.drop_eq_nil_of_le (by omega)
  unfold found;rw [hf];exact decide_eq_false fun e=>h e.1
end Mth
end Go.Proofs.YtppmcficiphgdaaGreatDoor
