/-
  PuMark, PmList, PmErr2, PmMoved, NdOpM, NdDoM.
-/
import Derived.Test.YtppmcficiphgdaaGreatDoorQa2
import Derived.Test.YtppmcficiphgdaaGreatDoorQa8
import Derived.Test.YtppmcficiphgdaaGreatDoorQaZ3
import Derived.Test.YtppmcficiphgdaaGreatDoorQa11
import Derived.Test.YtppmcficiphgdaaGreatDoorQa3
import Derived.Test.YtppmcficiphgdaaGreatDoorQa10
import Derived.Test.YtppmcficiphgdaaGreatDoorQa6
import Derived.Test.YtppmcficiphgdaaGreatDoorQa9
namespace Go.Proofs.YtppmcficiphgdaaGreatDoor
open Go.RowKit
open Mth
def PuW (w:World) (a:Option Addr) (g:Nat) (l:List Pu):Prop:=∀i (hi:i < l.length),a=some ⟨g,0,none⟩∧g < w.heap.size∧∀j,j < 4→w.cell? ⟨g,i*4+j,none⟩=(encP l[i])[j]?∧w.frozen? ⟨g,i*4+j,none⟩=false
theorem PuW.at {w:World} {a:Option Addr} {g:Nat} {l:List Pu} (h:PuW w a g l):PursesAt w a l:=fun i hi=>
 ⟨g,0,(h i hi).1,(h i hi).2.1,fun j hj=>by rw [Nat.zero_add];exact((h i hi).2.2 j hj).1⟩
theorem PuW.of_blk {w:World} {g:Nat} {l:List Pu} (h:puBlk w g l):PuW w (some ⟨g,0,none⟩) g l:=fun i hi=>
 ⟨rfl,GR.Blk.lt h,fun j hj=>⟨GR.Blk.cell h encP_length i hi j hj,GR.Blk.free h _⟩⟩
theorem PuW.nil {w:World} {a:Option Addr} {g:Nat}:PuW w a g []:=fun i hi=>by simp at hi
theorem PuW.below {w w':World} {a:Option Addr} {g:Nat} {l:List Pu} (h:PuW w a g l) (hb:Below w.heap.size w w'):PuW w' a g l:=fun i hi=>by
 obtain⟨e,hg,hc⟩:=h i hi;exact⟨e,Nat.lt_of_lt_of_le hg hb.size,fun j hj=>⟨(hb.cell (p:=⟨g,i*4+j,none⟩) hg).trans (hc j hj).1,(hb.frozen (p:=⟨g,i*4+j,none⟩) hg).trans (hc j hj).2⟩⟩
theorem PuW.keeps {w w':World} {a:Option Addr} {g g':Nat} {l:List Pu} (h:PuW w a g l) (hk:Keeps g' w w') (hne:l=[]∨g≠g'):PuW w' a g l:=by
 rcases hne with rfl|hne
 ·exact PuW.nil
 ·intro i hi;obtain⟨e,hg,hc⟩:=h i hi;exact Za50
theorem PuW.four {w:World} {a:Option Addr} {g:Nat} {l:List Pu} (h:PuW w a g l) (i:Nat) (hi:i < l.length):a=some ⟨g,0,none⟩∧g < w.heap.size∧(w.cell? ⟨g,i*4,none⟩=some (.string l[i].k)∧w.cell? ⟨g,i*4+1,none⟩=some (.int .i64 l[i].m)∧w.cell? ⟨g,i*4+2,none⟩=some (.int .i64 l[i].f)∧w.cell? ⟨g,i*4+3,none⟩=some (.int .i64 l[i].s))∧w.frozen? ⟨g,i*4,none⟩=false∧w.frozen? ⟨g,i*4+1,none⟩=false∧w.frozen? ⟨g,i*4+2,none⟩=false∧w.frozen? ⟨g,i*4+3,none⟩=false:=by
 exact Za13
theorem setW_cell_other {g k:Nat}:∀(vs:List Value) (w:World) (o:Nat),k < o∨o+vs.length≤k→(GR.setW w g o vs).cell? ⟨g,k,none⟩=w.cell? ⟨g,k,none⟩:=by
 exact Za37
theorem setW_cell_same {g:Nat}:∀(vs:List Value) (w:World) (o:Nat),(∀j,j < vs.length→∃v,w.cell? ⟨g,o+j,none⟩=some v)→∀j,j < vs.length→(GR.setW w g o vs).cell? ⟨g,o+j,none⟩=vs[j]?:=by
 intro vs;induction vs with
 |nil=>intro w o _ j hj;simp at hj
 |cons v vs ih=>
  intro w o h j hj
  cases j with
  |zero=>
   obtain⟨v0,hv0⟩:=h 0 (by simp)
   rw [Nat.add_zero] at hv0 ⊢
   refine(setW_cell_other vs (w.setCell ⟨g,o,none⟩ v) (o+1) (by omega)).trans ?_
   rw [World.cell?_setCell_same _ _ _ hv0]
   rfl
  |succ j=>
   have h2:=ih (w.setCell ⟨g,o,none⟩ v) (o+1) (fun j' hj'=>by
    obtain⟨v1,hv1⟩:=h (j'+1) (by simpa using hj')
    refine⟨v1,(World.cell?_setCell_other _ _ _ _ (by simp<;>omega)).trans ?_⟩
    rw [←hv1,show o+1+j'=o+(j'+1) by omega]) j (by simpa using hj)
   rw [show o+1+j=o+(j+1) by omega] at h2
   exact h2
theorem setW_frozen {g k:Nat}:∀(vs:List Value) (w:World) (o:Nat),(GR.setW w g o vs).frozen? ⟨g,k,none⟩=w.frozen? ⟨g,k,none⟩:=by
 exact Za67
theorem setW_size {g:Nat}:∀(vs:List Value) (w:World) (o:Nat),(GR.setW w g o vs).heap.size=w.heap.size:=by
 exact Za73
theorem PuW.set {w:World} {a:Option Addr} {g:Nat} {l:List Pu} (h:PuW w a g l) (k:Nat) (x:Pu) (hk:k < l.length):PuW (GR.setW w g (k*4) (encP x)) a g (l.set k x):=fun i hi=>by
 have hi':i < l.length:=by simpa using hi
 obtain⟨e,hg,hc⟩:=h i hi';refine⟨e,by rw [setW_size];exact hg,fun j hj=>⟨?_,by rw [setW_frozen];exact(hc j hj).2⟩⟩;by_cases hik:i=k
 ·subst hik
  rw [setW_cell_same (encP x) w (i*4) (fun j' hj'=>by
   have hj4:j' < 4:=by rw [encP_length] at hj';exact hj'
   have h1:=(hc j' hj4).1
   rw [List.getElem?_eq_getElem (by rw [encP_length];exact hj4)] at h1
   exact⟨_,h1⟩) j (by rw [encP_length];exact hj)]
  simp
 ·rw [setW_cell_other (encP x) w (k*4) (by rw [encP_length];omega),(hc j hj).1,List.getElem_set_ne (by omega)]
set_option maxHeartbeats 2000000
set_option maxRecDepth 100000
open Go.RowKit Go.Maps
theorem clonePurses (a:Option Addr) (cap:Nat) (l:List Pu) (w:World) (hl:l.length≤1048600) (ha:PursesAt w a l):
 Calls Tryz.prog 147 #[.slice a l.length cap] w fun e w'=>∃v,e= .returned v∧w'.ownsRow w.heap.size 141 4 v l.length (GR.flat encP l)∧Below w.heap.size w w':=by
 obtain⟨i0,hi,hz0,hz1,hz2⟩:=info_parts infoPu;have q22:∀(w:World) (a:Option Addr) (n c n' c':Nat),(binOp .eql 25 (.slice a n c) (.slice none n' c')).run Tryz.prog w= .ok (.bool a.isNone) w:=fun w a n c n' c'=>Lib.run_eql_slice_nil w _ _ a n c n' c' Tryz.underlying25
 have hlit:(w.alloc (.cells #[] 141)).ownsRow w.heap.size 141 4 (.slice (some ⟨w.heap.size,0,none⟩) 0 0) 0 []:=World.ownsRow_lit (base:=w.heap.size) (e:=141) (size:=4) w #[] 0 (Nat.le_refl _) (by decide) rfl;cases a with
 |none=>
  have hl0:l=[]:=GR.none_nil ha
  subst hl0
  clear ha hlit
  go_enter Tryz.func147,Tryz.ntmps147
  go_wp2_with fail
  go_ret
  exact⟨_,rfl,World.ownsRow_nil _ _ _ _,Below.refl _ _⟩
 |some x=>
  have HN:=hide (PursesAt.news (GR.At.below ha (below_one' w (.cells #[] 141))))
  clear ha
  go_enter Tryz.func147,Tryz.ntmps147
  go_wp2_with (at_builtin;refine wpList_append_own _ rfl _ _ 25 rfl w.heap.size 141 i0 (.agg #[.string ByteArray.empty,.int .i64 0,.int .i64 0,.int .i64 0]) 4 40 Tryz.underlying25 hi hz0 hz1 hz2 rfl (by decide) _ 0 [] rfl hlit x l.length cap (GR.flat encP l) rfl ?c0 ?c1 ?c2 ?c3 ?c4 ?c5 ?_)
  case c0=>exact GR.flat_length encP 4 encP_length l
  case c1=>exact HN
  case c2=>exact encP_one l
  case c3=>unfold maxLen;omega
  case c4=>omega
  case c5=>simp
  intro v' w1 hown' hgrow _
  have HO:=hide (show w1.ownsRow w.heap.size 141 4 v' l.length (GR.flat encP l) by simpa using hown')
  have hb:Below w.heap.size w w1:=(below_one' w _).grown hgrow (by simp) (fun k hk=>by cases hk;exact Nat.le_refl _)
  clear hown' hgrow hlit
  go_wp2
  go_ret
  exact⟨_,rfl,HO,hb⟩
theorem PuW.of_own {w:World} {B:Nat} {v:Value} {l:List Pu} (h:w.ownsRow B 141 4 v l.length (GR.flat encP l)) (hB:B≤w.heap.size):∃a c g,v= .slice a l.length c∧B≤g∧PuW w a g l:=by
 obtain⟨a,c,rfl,hat⟩:=GR.own_at encP_length h;rcases h.2 with⟨hv,hn⟩|⟨g,cap,cur,hv,hg,hblk,_⟩
 ·have hl:l=[]:=List.eq_nil_of_length_eq_zero hn;subst hl;exact⟨_,_,w.heap.size,rfl,hB,PuW.nil⟩
 ·cases hv
  refine⟨_,_,g,rfl,hg,fun i hi=>?_⟩;exact Za54
theorem implCopy (a:Option Addr) (cap:Nat) (l:List Pu) (w:World) (hl:l.length≤1048576) (hks:∀p∈l,p.k.size≤1048576) (ha:PursesAt w a l):
 Calls Tryz.prog 93 #[.slice a l.length cap] w fun e w'=>∃a' c' g,w.heap.size≤g∧e= .returned (.slice a' l.length c')∧PuW w' a' g l∧Below w.heap.size w w':=by
 have HCL:=hide (clonePurses a cap l w (by omega) ha);have HKS:=hide hks;clear ha hks;go_enter Tryz.func93,Tryz.ntmps93
 go_wp2_with fail;refine HCL.mono ?_;rintro e w1 ⟨v,rfl,hown,hb1⟩;obtain⟨a',c',g,rfl,hg,hW⟩:=PuW.of_own hown hb1.size;have HW:=hide hW;have HB1:=hide hb1;clear hown hb1 hW HCL;go_wp2_with fail;go_loopw [10] (fun i wr=>∃k:Nat,k≤l.length∧i= .int .i64 k∧PuW wr a' g l∧Below w.heap.size w wr) (fun i _=>l.length - (intOf i).toNat)
 case atStart=>exact⟨0,Nat.zero_le _,rfl,HW,HB1⟩
 case round=>
  obtain⟨k,hk,rfl,hB,hbel⟩:=hrel;have HB:=hide hB;have HBL:=hide hbel;clear hB hbel;by_cases hlt:k < l.length
  ·obtain⟨e0,hgw,⟨q0,q1,q2,q3⟩,_⟩:=PuW.four HB k hlt;subst e0;have hkk:=unhide HKS l[k] (List.getElem_mem hlt);have hse:l.set k l[k]=l:=List.set_getElem_self hlt;have HSE:=hide hse;clear hse;open Sa320 in exact Ya93
  ·open Sa76 in exact Ya17
theorem implList (B mp mb n:Nat) (v:Value) (l:List Pu) (G:ByteArray→Pu) (w:World) (hl:l.length≤20) (hG:∀p∈l,G p.k=p) (hks:∀p∈l,p.k.size≤1048576) (h:PM w B mp mb n v (l.map (·.k)) G):
 Calls Tryz.prog 246 #[.pointer (some ⟨mp,0,none⟩)] w fun e w'=>e= .returned (.slice (some ⟨w.heap.size,0,none⟩) l.length l.length)∧puBlk w' w.heap.size l∧Below w.heap.size w w':=by
 have hrow:=h.row;rw [List.length_map] at hrow
 obtain⟨a,cap,rfl⟩:∃a cap,v= .slice a l.length cap:=by
  exact Za94
 have hmk:=make_purses l.length (by omega);have HH:=hide h;have HG:=hide hG;have HKS:=hide hks;have HR:=hide hrow;obtain⟨⟨m0,m1⟩,_⟩:=two_at h.blk;have hmp:=Fo.lt_of_blk h.blk;clear h hG hks hrow;go_enter Tryz.func246,Tryz.ntmps246
 go_wp2_with fail;go_loopw [17] (fun i wr=>∃k:Nat,k≤l.length∧i= .int .i64 k∧puBlk wr w.heap.size (l.take k++List.replicate (l.length - k) ⟨ByteArray.empty,0,0,0⟩)∧Below w.heap.size w wr) (fun i _=>l.length - (intOf i).toNat)
 case atStart=>exact Za76
 case round=>
  open Sa212 in exact Ya52
set_option maxHeartbeats 2000000
theorem isRefusal_nil {w:World} {E:Nat→Addr} (h:Errs w E):Calls Tryz.prog 218 #[.nilIface] w fun e w'=>e= .returned (.bool false)∧w=w':=by
 have v0:=h.var 0 (by omega);have v1:=h.var 1 (by omega);have v2:=h.var 2 (by omega);have v3:=h.var 3 (by omega);have v4:=h.var 4 (by omega);have HE:=hide h;clear h;go_enter Tryz.func218,Tryz.ntmps218
 go_wp2_with (go_at_call 247;refine(is_nil _ _).mono ?_;rintro e w1 ⟨rfl,rfl⟩)
 go_ret;exact⟨rfl,rfl⟩
theorem isRefusal_at {w:World} {E:Nat→Addr} (h:Errs w E) (i:Nat) (hi:i < 5):Calls Tryz.prog 218 #[errV (E i)] w fun e w'=>e= .returned (.bool true)∧w=w':=by
 have v0:=h.var 0 (by omega);have v1:=h.var 1 (by omega);have v2:=h.var 2 (by omega);have v3:=h.var 3 (by omega);have v4:=h.var 4 (by omega);have HE:=hide h;clear h;match i,hi with
 |0,_|1,_|2,_|3,_|4,_=>
  go_enter Tryz.func218,Tryz.ntmps218
  go_wp2_with (go_at_call 247;first|(refine(is_at HE _ _ true (by omega) (by omega) (by decide)).mono ?_;rintro e w1 ⟨rfl,rfl⟩)|(refine(is_at HE _ _ false (by omega) (by omega) (by decide)).mono ?_;rintro e w1 ⟨rfl,rfl⟩))
  go_ret
  exact⟨rfl,rfl⟩
set_option maxHeartbeats 4000000
namespace Mth
def addP (l:List Pu) (key:ByteArray) (dm df ds n:Int):List Pu×Bool:=withP l (shiftP (purseOf l key) dm df ds n) n
theorem put_at {l:List Pu} (hp:l.Pairwise klt) (p:Pu):∀q∈putP l p,upd (purseOf l) p q.k=q:=by
 intro q hq;obtain⟨i,hi,rfl⟩:=List.mem_iff_getElem.1 hq;have h:=put_map hp p;have h2:=congrArg (fun x=>x[i]?) h;simp only[List.getElem?_map,List.getElem?_eq_getElem hi,Option.map_some,Option.some.injEq] at h2;exact h2
theorem put_mem {l:List Pu} {p q:Pu} (h:q∈putP l p):q=p∨q∈l:=by
 unfold putP at h;rcases List.mem_append.1 h with h|h
 ·exact .inr ((List.takeWhile_sublist _).mem h)
 ·rcases List.mem_cons.1 h with h|h
  ·exact .inl h
  ·exact .inr ((List.dropWhile_sublist _).mem (tail_sub l p.k q h))
theorem addP_list {l:List Pu} {key:ByteArray} {dm df ds n:Int} (h:psOk l=false):addP l key dm df ds n=(l,false):=by
 unfold addP withP;rw [h];rfl
theorem addP_n {l:List Pu} {key:ByteArray} {dm df ds n:Int} (h:¬(1≤n∧n≤1000000000)):addP l key dm df ds n=(l,false):=by
 unfold addP withP;rw [decide_eq_false h];simp
theorem addP_in {l:List Pu} {key:ByteArray} {dm df ds n:Int} (h:psOk l=true) (hn:1≤n∧n≤1000000000):
 addP l key dm df ds n=if puOk (shiftP (purseOf l key) dm df ds n)&&decide ((putP l (shiftP (purseOf l key) dm df ds n)).length≤20) then(putP l (shiftP (purseOf l key) dm df ds n),true) else(l,false):=by
 unfold addP withP;rw [psOk_put _ h,h,decide_eq_true hn];rfl
theorem shift_key {l:List Pu} {key:ByteArray} {dm df ds n:Int} (h:keyOk key.data.toList=false):puOk (shiftP (purseOf l key) dm df ds n)=false:=by
 unfold puOk;have:(shiftP (purseOf l key) dm df ds n).k=key:=purseOf_k l key;rw [this,h];rfl
theorem purseOf_ok {l:List Pu} {key:ByteArray} (h:psOk l=true) (hk:keyOk key.data.toList=true):puOk (purseOf l key)=true:=by
 obtain⟨h1,_,_⟩:=(psOk_iff l).1 h;unfold purseOf;cases hf:l.find? (fun p=>p.k.toList == key.toList) with
 |none=>simp[puOk,amB,hk]
 |some q=>exact h1 q (List.mem_of_find?_eq_some hf)
theorem unit_mul {d n:Int} (hd:d= -1∨d=0∨d=1) (hn:1≤n∧n≤1000000000): -1000000000≤d*n∧d*n≤1000000000:=by
 rcases hd with rfl|rfl|rfl<;>omega
end Mth
theorem implMoved (a:Option Addr) (cap:Nat) (l:List Pu) (key:ByteArray) (dm df ds n:Int) (E:Nat→Addr) (w:World) (hl:l.length≤1048576) (hks:∀p∈l,p.k.size≤1048576) (hkey:key.size≤1048576)
 (hd1:dm= -1∨dm=0∨dm=1) (hd2:df= -1∨df=0∨df=1) (hd3:ds= -1∨ds=0∨ds=1) (ha:PursesAt w a l) (he:Errs w E):
 Calls Tryz.prog 217 #[.slice a l.length cap,.string key,.int .i64 n,shv dm df ds] w fun e w'=>Below w.heap.size w w'∧
  (((addP l key dm df ds n).2=false∧∃i,i < 5∧e= .returned (.tuple #[.slice none 0 0,errV (E i)]))∨
   ((addP l key dm df ds n).2=true∧∃g,w.heap.size≤g∧e= .returned (.tuple #[.slice (some ⟨g,0,none⟩) (addP l key dm df ds n).1.length (addP l key dm df ds n).1.length,.nilIface])∧puBlk w' g (addP l key dm df ds n).1)):=by
 have hb0:=below_one' w (.cells #[.int .i64 dm,.int .i64 df,.int .i64 ds] 213);cases hok:psOk l
 ·have HNO:=hide (implMapOf_no a cap l E _ (by omega) (GR.At.below ha hb0) (he.below hb0) hok);have HAD:=hide (addP_list (key:=key) (dm:=dm) (df:=df) (ds:=ds) (n:=n) hok);clear ha he hks hok hb0 hd1 hd2 hd3;go_enter Tryz.func217,Tryz.ntmps217
  go_wp2_with fail;refine HNO.mono ?_;rintro e w1 ⟨rfl,hb1⟩;have HB1:=hide (Fo.one_block hb1).2.2;clear hb1;go_wp2_with fail;go_ret2
  exact⟨HB1,.inl ⟨by rw [unhide HAD],_,by omega,rfl⟩⟩
 have HOF:=hide (implMapOf_yes a cap l _ (GR.At.below ha hb0) hks hok);have HE:=hide he;cases hkk:keyOk key.data.toList
 ·have HK:=hide (fun w1=>implKeyB key false w1 hkk)
  have HAD:Hid ((addP l key dm df ds n).2=false):=by
   by_cases hn:1≤n∧n≤1000000000
   ·rw [addP_in hok hn,shift_key hkk];rfl
   ·rw [addP_n hn];exact hide rfl
  clear ha he hks hok hb0 hd1 hd2 hd3 hkk;go_enter Tryz.func217,Tryz.ntmps217
  go_wp2_with fail;refine HOF.mono ?_;rintro e w1 ⟨mp,mb,v,rfl,hPM,hb1⟩;have HB1:=hide (Fo.one_block hb1).2.2;have ve:=(HE.below HB1).var 0 (by omega);clear hb1 hPM HOF;go_wp2_with (go_at_call 153;refine(HK _).mono ?_;rintro e w2 ⟨rfl,rfl⟩)
  go_quiet (fail);go_wp2_with fail;go_ret2
  exact⟨HB1.trans ⟨rfl,rfl,rfl,Nat.le_refl _,fun _ _=>rfl⟩,.inl ⟨HAD,_,by omega,rfl⟩⟩
 have HK:=hide (fun w1=>implKeyB key true w1 hkk);by_cases hn:1≤n∧n≤1000000000
 case' neg=>
  have HAD:=hide (addP_n (l:=l) (key:=key) (dm:=dm) (df:=df) (ds:=ds) hn)
  have HAM:=hide (fun w1=>isSomeAmount n false w1 (decide_eq_false hn))
  clear ha he hks hok hb0 hd1 hd2 hd3 hkk
  go_enter Tryz.func217,Tryz.ntmps217
  go_wp2_with fail
  refine HOF.mono ?_
  rintro e w1 ⟨mp,mb,v,rfl,hPM,hb1⟩
  have HB1:=hide (Fo.one_block hb1).2.2
  have ve:=(HE.below HB1).var 1 (by omega)
  clear hb1 hPM HOF
  go_wp2_with (first|(go_at_call 153;refine(HK _).mono ?_;rintro e w2 ⟨rfl,rfl⟩)|(go_at_call 100;refine(HAM _).mono ?_;rintro e w2 ⟨rfl,rfl⟩))
  go_quiet (fail)
  go_wp2_with fail
  go_ret2
  exact⟨HB1.trans ⟨rfl,rfl,rfl,Nat.le_refl _,fun _ _=>rfl⟩,.inl ⟨by rw [unhide HAD],_,by omega,rfl⟩⟩
 have HAM:=hide (fun w1=>isSomeAmount n true w1 (decide_eq_true hn));have hpo:=purseOf_ok (l:=l) (key:=key) hok hkk;have u1:=unit_mul hd1 hn;have u2:=unit_mul hd2 hn;have u3:=unit_mul hd3 hn;obtain⟨_,hpw,hl20⟩:=(psOk_iff l).1 hok;have HAI:=hide (addP_in (key:=key) (dm:=dm) (df:=df) (ds:=ds) hok hn);have HKS:=hide hks;cases hsp:puOk (shiftP (purseOf l key) dm df ds n)
 ·have HMV:=hide (fun B mp mb n0 v w1 (h:PM w1 B mp mb n0 v (l.map (·.k)) (purseOf l)) (he1:Errs w1 E)=>implMove_bad B mp mb n0 v l key dm df ds n E w1 hkey hpo u1 u2 u3 h he1 hsp)
  have HAD:Hid ((addP l key dm df ds n).2=false):=by
   rw [unhide HAI,hsp];rfl
  clear ha he hks hok hb0 hd1 hd2 hd3 hkk hpo u1 u2 u3 hpw hsp HAI;open Sa129 in exact Ya28
 ·have HMV:=hide (fun B mp mb n0 v w1 (hB:B≤w1.heap.size) (hn0:n0 < maxLen) (h:PM w1 B mp mb n0 v (l.map (·.k)) (purseOf l)) (he1:Errs w1 E)=>implMove_ok B mp mb n0 v l key dm df ds n E w1 hB hkey hn0 hl20 hpw hpo u1 u2 u3 h he1 hsp);have hkp:(shiftP (purseOf l key) dm df ds n).k=key:=purseOf_k l key
  have HFULL:Hid (found l key=false→l.length=20→(addP l key dm df ds n).2=false):=by
   intro hf h20;have hlen:=put_length_not (l:=l) (p:=shiftP (purseOf l key) dm df ds n) (by rw [hkp];exact hf);rw [unhide HAI,hsp,decide_eq_false (by omega)];rfl
  have HROOM:Hid ((found l key=true∨l.length < 20)→addP l key dm df ds n=(putP l (shiftP (purseOf l key) dm df ds n),true)∧(putP l (shiftP (purseOf l key) dm df ds n)).length≤20):=by
   intro hf
   have hlen:(putP l (shiftP (purseOf l key) dm df ds n)).length≤20:=by
    cases hff:found l key
    ·have:=put_length_not (l:=l) (p:=shiftP (purseOf l key) dm df ds n) (by rw [hkp];exact hff);rcases hf with hf|hf
     ·rw [hff] at hf;cases hf
     ·omega
    ·have:=put_length_found (l:=l) (p:=shiftP (purseOf l key) dm df ds n) (by rw [hkp];exact hff);omega
   rw [unhide HAI,hsp,decide_eq_true hlen];exact⟨rfl,hlen⟩
  have HPK:Hid (∀q∈putP l (shiftP (purseOf l key) dm df ds n),q.k.size≤1048576):=by
   intro q hq;rcases put_mem hq with rfl|hq
   ·rw [hkp];exact hkey
   ·exact HKS q hq
  have HPA:=hide (put_at hpw (shiftP (purseOf l key) dm df ds n));clear ha he hks hok hb0 hd1 hd2 hd3 hkk hpo u1 u2 u3 hpw hsp HAI hkp;generalize putP l (shiftP (purseOf l key) dm df ds n)=PL at *;generalize upd (purseOf l) (shiftP (purseOf l key) dm df ds n)=G2 at *;open Sa128 in exact Ya28
namespace Mth
structure Op5 where
 K:Int
 no:Int
 k:ByteArray
 n:Int
 m:Mg
def zmB (m:Mg):Bool:=decide (m.K=0∧m.F=0∧m.T=0∧m.I=0∧m.L=0∧m.k.toList=[]∧m.N=0)
def opOk (o:Op5):Bool:=
 if o.K=0∨o.K=3∨o.K=4 then keyOk o.k.data.toList&&smB o.n&&decide (o.no=0)&&zmB o.m
 else if o.K=1 then keyOk o.k.data.toList&&smB o.n&&smB o.no&&zmB o.m
 else if o.K=2 then decide (o.k.toList=[])&&decide (o.n=0)&&smB o.no&&zmB o.m
 else if o.K=5 then decide (o.k.toList=[])&&decide (o.n=0)&&decide (o.no=0)&&zmB o.m
 else if o.K=6 then decide (o.k.toList=[])&&decide (o.n=0)&&decide (o.no=0)&&mgOk o.m
 else false
end Mth
abbrev opw (o:Op5):Value:= .agg #[.int .i64 o.K,.int .i64 o.no,.string o.k,.int .i64 o.n,.int .i64 o.m.K,.int .i64 o.m.F,.int .i64 o.m.T,.int .i64 o.m.I,.int .i64 o.m.L,.string o.m.k,.int .i64 o.m.N]
namespace Mth
theorem asc_of_chk {α:Type} {p:α→Bool} {f:α→Int} {l:List α} (h:chk p (fun s t=>ltB (f s) (f t)) l=true):l.Pairwise (fun s t=>f s < f t):=by
 have:=((chk_iff (p:=p) (r:=fun s t=>ltB (f s) (f t)) (fun a b c h1 h2=>ltB_trans _ _ _ h1 h2)).1 h).2;exact this.imp (fun h=>by simpa [ltB] using h)
def setPu (n:Nd) (l:List Pu):Nd:=⟨n.id,n.par,n.kids,n.next,l,n.out,n.seen,n.old,n.reqs⟩
def setOut (n:Nd) (l:List Snt):Nd:=⟨n.id,n.par,n.kids,n.next,n.pu,l,n.seen,n.old,n.reqs⟩
def setSeen (n:Nd) (l:List Sn):Nd:=⟨n.id,n.par,n.kids,n.next,n.pu,n.out,l,n.old,n.reqs⟩
def setReqs (n:Nd) (l:List Rq):Nd:=⟨n.id,n.par,n.kids,n.next,n.pu,n.out,n.seen,n.old,l⟩
def setOld (n:Nd) (x:Int):Nd:=⟨n.id,n.par,n.kids,n.next,n.pu,n.out,n.seen,x,n.reqs⟩
def setNext (n:Nd) (x:Int):Nd:=⟨n.id,n.par,n.kids,x,n.pu,n.out,n.seen,n.old,n.reqs⟩
def amtP (n:Nd) (key:ByteArray) (most:Int):Int:=if (purseOf n.pu key).f < most then(purseOf n.pu key).f else most
def payB (n:Nd) (amt:Int):Bool:=decide (1≤amt∧n.out.length < 40∧n.next < 1000000000)
def paidN (n:Nd) (dst:Int) (key:ByteArray) (amt:Int):Nd:=⟨n.id,n.par,n.kids,n.next+1,(addP n.pu key 0 (-1) 0 amt).1,n.out++[⟨n.next,dst,key,amt⟩],n.seen,n.old,n.reqs⟩
def giveN (n:Nd) (dst:Int) (key:ByteArray) (most:Int):Nd×List Mg×Bool:=
 if payB n (amtP n key most)=true then(paidN n dst key (amtP n key most),[payM (paidN n dst key (amtP n key most)) ⟨n.next,dst,key,amtP n key most⟩],true) else(n,[],false)
def reqI (l:List Rq) (no:Int):Nat:=(l.takeWhile (fun r=>decide (r.no < no))).length
def reqF (l:List Rq) (no:Int):Bool:=(l[reqI l no]?).elim false (fun r=>decide (r.no=no))
def insQ (l:List Rq) (q:Rq):List Rq:=l.take (reqI l q.no)++q::l.drop (reqI l q.no)
def keepN (n:Nd) (q:Rq):Nd:=if 30 < (insQ n.reqs q).length then setReqs (setOld n ((insQ n.reqs q).headD default).no) (insQ n.reqs q).tail else setReqs n (insQ n.reqs q)
def sameQ (r:Rq) (key:ByteArray) (a:Int):Bool:=decide (r.s=0)&&(r.k.toList == key.toList)&&decide (r.n=a)
def admitN (n:Nd) (no:Int) (key:ByteArray) (a:Int):Nd×Int:=
 if no≤n.old then(n,2)
 else if reqF n.reqs no=true then(n,if sameQ (n.reqs.getD (reqI n.reqs no) default) key a=true then 0 else 1)
 else(keepN (setPu n (addP n.pu key 0 (-1) 1 a).1) ⟨no,key,a,if (addP n.pu key 0 (-1) 1 a).2=true then 0 else 1⟩,if (addP n.pu key 0 (-1) 1 a).2=true then 0 else 1)
def relQ (r:Rq):Rq:=⟨r.no,r.k,r.n,2⟩
def releaseN (n:Nd) (no:Int):Nd×Int:=
 if no≤n.old then(n,2)
 else if reqF n.reqs no=false then(n,1)
 else if (n.reqs.getD (reqI n.reqs no) default).s=1 then(n,1)
 else if (n.reqs.getD (reqI n.reqs no) default).s=2 then(n,0)
 else if (addP n.pu (n.reqs.getD (reqI n.reqs no) default).k 0 1 (-1) (n.reqs.getD (reqI n.reqs no) default).n).2=true then
  (setReqs (setPu n (addP n.pu (n.reqs.getD (reqI n.reqs no) default).k 0 1 (-1) (n.reqs.getD (reqI n.reqs no) default).n).1) (n.reqs.set (reqI n.reqs no) (relQ (n.reqs.getD (reqI n.reqs no) default))),0)
 else(n,1)
def seenI (l:List Sn) (f:Int):Nat:=l.findIdx (fun s=>decide (s.f=f))
def lowS (s:Sn) (low:Int):Int:=if s.l < low then low else s.l
def idsS (s:Sn) (low:Int):List Int:=s.ids.filter (fun x=>decide (lowS s low≤x))
def hasS (s:Sn) (low i:Int):Bool:=decide (i < lowS s low)||hasB (idsS s low) i
def insI (l:List Int) (x:Int):List Int:=l.takeWhile (fun y=>decide (y < x))++x::l.dropWhile (fun y=>decide (y < x))
def ackM (n:Nd) (m:Mg):Mg:=⟨2,n.id,m.F,m.I,0,ByteArray.empty,0⟩
def gainB (n:Nd) (s:Sn) (m:Mg):Bool:=(addP n.pu m.k 0 1 0 m.N).2&&decide ((idsS s m.L).length < 40)
def takeN (n:Nd) (m:Mg):Nd×Bool:=
 if hasS (n.seen.getD (seenI n.seen m.F) default) m.L m.I=true then
  (setSeen n (n.seen.set (seenI n.seen m.F) ⟨m.F,lowS (n.seen.getD (seenI n.seen m.F) default) m.L,idsS (n.seen.getD (seenI n.seen m.F) default) m.L⟩),true)
 else if gainB n (n.seen.getD (seenI n.seen m.F) default) m=true then
  (setSeen (setPu n (addP n.pu m.k 0 1 0 m.N).1) (n.seen.set (seenI n.seen m.F) ⟨m.F,lowS (n.seen.getD (seenI n.seen m.F) default) m.L,insI (idsS (n.seen.getD (seenI n.seen m.F) default) m.L) m.I⟩),true)
 else(setSeen n (n.seen.set (seenI n.seen m.F) ⟨m.F,lowS (n.seen.getD (seenI n.seen m.F) default) m.L,idsS (n.seen.getD (seenI n.seen m.F) default) m.L⟩),false)
def outB2 (m:Mg) (s:Snt):Bool:=decide (s.i=m.I∧s.t=m.F)
def hearN (n:Nd) (m:Mg):Nd×List Mg×Int:=
 if m.K=1 then((takeN n m).1,if (takeN n m).2=true then[ackM n m] else[],if (takeN n m).2=true then 0 else 1)
 else if m.K=2 then(setOut n (n.out.filter (fun s=> !outB2 m s)),[],0)
 else if hasB n.kids m.F=true then((giveN n m.F m.k m.N).1,(giveN n m.F m.k m.N).2.1,0)
 else(n,[],1)
def wantM (n:Nd) (o:Op5):Mg:=⟨0,n.id,n.par,0,0,o.k,o.n⟩
def actN (n:Nd) (o:Op5):Nd×List Mg×Int:=
 if o.K=0 then(if n.par= -1∧(addP n.pu o.k 1 1 0 o.n).2=true then(setPu n (addP n.pu o.k 1 1 0 o.n).1,[],0) else(n,[],1))
 else if o.K=1 then((admitN n o.no o.k o.n).1,[],(admitN n o.no o.k o.n).2)
 else if o.K=2 then((releaseN n o.no).1,[],(releaseN n o.no).2)
 else if o.K=3 then(if n.par= -1 then(n,[],1) else(n,[wantM n o],0))
 else if o.K=4 then(if n.par= -1 then(n,[],1) else((giveN n n.par o.k o.n).1,(giveN n n.par o.k o.n).2.1,if (giveN n n.par o.k o.n).2.2=true then 0 else 1))
 else if o.K=5 then(n,n.out.map (payM n),0)
 else hearN n o.m
def addrB (n:Nd) (o:Op5):Bool:= !decide (o.K=6)||(decide (o.m.T=n.id)&&nearB n o.m.F)
def wdoN (n:Nd) (o:Op5):Nd×List Mg×Int:=if opOk o&&addrB n o then actN n o else(n,[],3)
def doN (n:Nd) (o:Op5):Nd×List Mg×Int:=if ndOk n then wdoN n o else(n,[],3)
theorem doN_bad {n:Nd} {o:Op5} (h:ndOk n=false):doN n o=(n,[],3):=by unfold doN;rw [h];rfl
theorem doN_ok {n:Nd} {o:Op5} (h:ndOk n=true):doN n o=wdoN n o:=by unfold doN;rw [h];rfl
theorem ndOk_parts {n:Nd} (h:ndOk n=true):placeB n=true∧psOk n.pu=true∧toldB n=true∧smB n.next=true∧outsB n=true∧reqsB n=true:=by
 unfold ndOk at h;simp only[Bool.and_eq_true] at h;exact⟨h.1.1.1.1.1,h.1.1.1.1.2,h.1.1.1.2,h.1.1.2,h.1.2,h.2⟩
theorem reqs_asc {n:Nd} (h:reqsB n=true):n.reqs.Pairwise (fun s t=>s.no < t.no)∧n.reqs.length≤30∧(∀q∈n.reqs,reqB n q=true)∧0≤n.old∧n.old≤1000000000:=by
 unfold reqsB at h;simp only[Bool.and_eq_true,decide_eq_true_eq] at h;obtain⟨⟨h1,h2⟩,h3⟩:=h;have h1':0≤n.old∧n.old≤1000000000:=by simpa [amB] using h1
 exact⟨asc_of_chk (f:=fun r:Rq=>r.no) h3,h2,chk_mem h3,h1'.1,h1'.2⟩
theorem outs_asc {n:Nd} (h:outsB n=true):n.out.Pairwise (fun s t=>s.i < t.i)∧n.out.length≤40∧(∀q∈n.out,outB n q=true):=by
 unfold outsB at h;simp only[Bool.and_eq_true,decide_eq_true_eq] at h;exact⟨asc_of_chk (f:=fun r:Snt=>r.i) h.2,h.1,chk_mem h.2⟩
theorem reqB_parts {n:Nd} {q:Rq} (h:reqB n q=true):n.old+1≤q.no∧q.no≤1000000000∧keyOk q.k.data.toList=true∧smB q.n=true∧0≤q.s∧q.s≤2:=by
 unfold reqB at h;simp only[Bool.and_eq_true,decide_eq_true_eq] at h;exact⟨h.1.1.1.1,h.1.1.1.2,h.1.1.2,h.1.2,h.2.1,h.2.2⟩
theorem reqI_le (l:List Rq) (no:Int):reqI l no≤l.length:=by
 unfold reqI;exact(List.takeWhile_sublist _).length_le
theorem reqI_below (l:List Rq) (no:Int):∀i (hi:i < l.length),i < reqI l no→l[i].no < no:=by
 induction l with
 |nil=>intro i hi;simp at hi
 |cons x l ih=>
  intro i hi h
  by_cases hx:x.no < no
  ·cases i with
   |zero=>exact hx
   |succ i=>
    refine ih i (by simpa using hi) ?_
    unfold reqI at h ⊢
    rw [List.takeWhile_cons_of_pos (by simpa using hx)] at h
    simpa using h
  ·unfold reqI at h;rw [List.takeWhile_cons_of_neg (by simpa using hx)] at h;simp at h
theorem reqI_above {l:List Rq} {no:Int} (hp:l.Pairwise (fun s t=>s.no < t.no)):∀i (hi:i < l.length),reqI l no≤i→no≤l[i].no:=by
 induction l with
 |nil=>intro i hi;simp at hi
 |cons x l ih=>
  intro i hi h
  have hp':=List.pairwise_cons.1 hp
  by_cases hx:x.no < no
  ·unfold reqI at h;rw [List.takeWhile_cons_of_pos (by simpa using hx)] at h;simp only[List.length_cons] at h;cases i with
   |zero=>omega
   |succ i=>exact ih hp'.2 i (by simpa using hi) (by unfold reqI;omega)
  ·cases i with
   |zero=>show no≤x.no;omega
   |succ i=>
    have hi':i < l.length:=by simpa using hi
    have:=hp'.1 l[i] (List.getElem_mem hi')
    show no≤l[i].no
    omega
theorem reqI_at {l:List Rq} {no:Int} (hp:l.Pairwise (fun s t=>s.no < t.no)) {i:Nat} (hi:i≤l.length) (h1:∀j (hj:j < l.length),j < i→l[j].no < no) (h2:∀j (hj:j < l.length),i≤j→no≤l[j].no):reqI l no=i:=by
 have hle:=reqI_le l no;rcases Nat.lt_trichotomy (reqI l no) i with h|h|h
 ·have a:=h1 (reqI l no) (by omega) h;have b:=reqI_above (no:=no) hp (reqI l no) (by omega) (Nat.le_refl _);omega
 ·exact h
 ·have a:=h2 i (by omega) (Nat.le_refl _);have b:=reqI_below l no i (by omega) h;omega
theorem reqF_iff (l:List Rq) (no:Int):reqF l no=true↔∃h:reqI l no < l.length,l[reqI l no].no=no:=by
 unfold reqF;by_cases h:reqI l no < l.length
 ·rw [List.getElem?_eq_getElem h];simp[h]
 ·rw [List.getElem?_eq_none (by omega)];simp[h]
theorem reqF_mem {l:List Rq} {no:Int} (hp:l.Pairwise (fun s t=>s.no < t.no)) {i:Nat} (hi:i < l.length) (h:l[i].no=no):reqI l no=i∧reqF l no=true:=by
 have e:reqI l no=i:=by
  refine reqI_at hp (by omega) (fun j hj hlt=>?_) (fun j hj hle=>?_)
  ·have:=List.pairwise_iff_getElem.1 hp j i hj hi hlt;omega
  ·rcases Nat.lt_or_ge i j with hlt|hge
   ·have:=List.pairwise_iff_getElem.1 hp i j hi hj hlt;omega
   ·have e:j=i:=by omega
    subst e;omega
 refine⟨e,(reqF_iff l no).2 ⟨by omega,?_⟩⟩;subst h;simp[e]
theorem reqF_none {l:List Rq} {no:Int} (h:∀q∈l,q.no≠no):reqF l no=false:=by
 rw [Bool.eq_false_iff];intro hf;obtain⟨hi,e⟩:=(reqF_iff l no).1 hf;exact h _ (List.getElem_mem hi) e
theorem part_ok {l:List Pu} {key:ByteArray} {a:Int} (h:psOk l=true) (hk:keyOk key.data.toList=true) (h1:1≤a) (h2:a≤(purseOf l key).f) (h3:a≤1000000000):(addP l key 0 (-1) 0 a).2=true:=by
 rw [addP_in h ⟨h1,h3⟩];have hp:=purseOf_ok h hk;have hk':=purseOf_k l key
 have hfd:found l key=true:=by
  cases hf:found l key with
  |true=>rfl
  |false=>
   exfalso
   obtain⟨_,hpw,_⟩:=(psOk_iff l).1 h
   have:purseOf l key=⟨key,0,0,0⟩:=by
    refine purseOf_none (fun q hq e=>?_);have hq2:=purseOf_mem hpw hq;rw [e] at hq2;have hx:=bs_found l key;rw [hf] at hx;have hx:=of_decide_eq_false hx;obtain⟨i,hi,rfl⟩:=List.mem_iff_getElem.1 hq;apply hx
    have hle:=place_le l key;by_cases hpl:place l key < l.length
    ·refine⟨hpl,?_⟩;have hnl:=from_head l key l[place l key] (l.drop (place l key+1)) (by rw [from_drop,List.drop_eq_getElem_cons hpl]);have hka:keyAt l key (place l key)=l[place l key].k:=by unfold keyAt;rw [List.getElem?_eq_getElem hpl];rfl
     rw [hka];rcases Nat.lt_trichotomy (place l key) i with hlt|heq|hgt
     ·have:=List.pairwise_iff_getElem.1 hpw _ _ hpl hi hlt;have h4:l[place l key].k.toList < l[i].k.toList:=this;rw [e] at h4;exact absurd h4 hnl
     ·subst heq;exact e
     ·exact Za39
    ·exact Za39
   rw [this] at h2
   dsimp only at h2
   omega
 have hlen:(putP l (shiftP (purseOf l key) 0 (-1) 0 a)).length≤20:=by
  have e:(shiftP (purseOf l key) 0 (-1) 0 a).k=key:=hk';rw [put_length_found (by rw [e];exact hfd)];exact((psOk_iff l).1 h).2.2
 have hok:puOk (shiftP (purseOf l key) 0 (-1) 0 a)=true:=by
  unfold puOk amB at hp ⊢;unfold shiftP;simp only[Bool.and_eq_true,decide_eq_true_eq] at hp ⊢;refine⟨⟨⟨⟨hp.1.1.1.1,?_⟩,?_⟩,?_⟩,?_⟩<;>omega
 rw [hok,decide_eq_true hlen];rfl
end Mth
end Go.Proofs.YtppmcficiphgdaaGreatDoor
