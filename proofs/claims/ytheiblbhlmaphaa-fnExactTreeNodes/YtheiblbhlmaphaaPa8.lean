/-
  AppW, TrMath, TrOk, TrNd, TrUp, TrKids.
-/
import Derived.Test.YtheiblbhlmaphaaPa1
import Derived.Test.YtheiblbhlmaphaaPa2
import Derived.Test.YtheiblbhlmaphaaPaZ2
import Derived.Test.YtheiblbhlmaphaaPa7
import Derived.OneCell
import Derived.Laws.AppendOwnNone
import Derived.Maps.AppendAt
import Derived.Laws.OwnMore
import Derived.Lib.AppendZeros
namespace Go.Proofs.Ytheiblbhlmaphaa
open Go.RowKit
open Mth
theorem run_append_where {P:Program} (w:World) (base:Nat) (t ty e:TypeId) (i:TypeInfo) (z:Value) (size bytes:Nat) (ht:P.underlying t=some (.slice e)) (hi:P.info? e=some i) (hz:i.zero=some z)
 (hsize:i.size=size) (hby:i.bytes=bytes) (hzs:z.cells.size=size) (hsz:0 < size)
 (v:Value) (n:Nat) (xs:List Value) (hown:w.ownsRow base e size v n xs)
 (a:Addr) (m c:Nat) (news:List Value) (hl:news.length=m*size) (hnews:∀j u,news[j]?=some u→w.cell? (a.add j)=some u) (h1:∀u∈news,u.oneCell'=true)
 (h63:n+m≤maxLen) (hbytes:(n+m)*bytes≤140737488355328) (hbase:base≤w.heap.size):
 ∃v' w',(Builtin.append_ #[t,t] ty #[v,.slice (some a) m c]).run P w= .ok v' w'∧w'.ownsRow base e size v' (n+m) (xs++news)∧w.grownBy w' v.ownBlock∧
  ∀x,v'.ownBlock=some x→v.ownBlock=some x∨w.heap.size≤x:=by
 obtain⟨v',w',hr,ho,hg,_⟩:=run_append_own w base t ty e i z size bytes ht hi hz hsize hby hzs hsz v n xs hown a m c news hl hnews h1 h63 hbytes hbase;refine⟨v',w',hr,ho,hg,fun x hx=>?_⟩;have hsmall:n+m≤9223372036854775807:=by simp only[maxLen] at h63;omega
 rcases hown.2 with⟨rfl,rfl⟩|⟨g,cap,cur,rfl,hbg,hgg,hnc,hcm,hcs,htake⟩
 ·have hxs:xs=[]:=List.eq_nil_of_length_eq_zero (by simpa using hown.1);subst hxs;obtain⟨v2,w2,hr2,ho2,_,_⟩:=run_append_own w w.heap.size t ty e i z size bytes ht hi hz hsize hby hzs hsz (.slice none 0 0) 0 [] (World.ownsRow_nil w _ e size) a m c news hl hnews h1 h63 hbytes (Nat.le_refl _);have he:=hr.symm.trans hr2;simp only[Result.ok.injEq] at he;obtain⟨rfl,rfl⟩:=he;exact .inr (ho2.lt x hx).1
 ·subst hsize;subst hby;by_cases hroom:n+m≤cap
  ·have hfit:n*i.size+news.length≤cur.size:=by rw [hl,hcs,←Nat.add_mul];exact Nat.mul_le_mul_right _ hroom
   have hr2:=run_append_room (P:=P) w t ty e i ht hi g n cap cur hgg a m c news hl hnews h1 hroom hfit;have he:=hr.symm.trans hr2;simp only[Result.ok.injEq] at he;obtain⟨rfl,_⟩:=he;exact .inl hx
  ·have holds:∀j u,xs[j]?=some u→w.cell? ((⟨g,0,none⟩:Addr).add j)=some u:=hown.cells (g:=g) rfl;have hr2:=run_append_grow (P:=P) w t ty e i z ht hi hz ⟨g,0,none⟩ n cap xs hown.1 holds a m c news hl hnews (by omega) (by omega) (growslice_fits (by omega) hbytes);have he:=hr.symm.trans hr2;simp only[Result.ok.injEq] at he;obtain⟨rfl,_⟩:=he;have:w.heap.size=x:=by simpa [Value.ownBlock] using hx
   exact .inr (by omega)
theorem wp_append_where {P:Program} (w:World) {o:Oper} {a:Act} {K:Act→World→Prop} {Q:Exit→Act→World→Prop} (s x:Operand) (t:TypeId)
 (ho:o.op= .call {callee:= .builtin .append,args:=#[s,x],argTypes:=#[t,t]})
 (base:Nat) (e:TypeId) (i:TypeInfo) (z:Value) (size bytes:Nat) (ht:P.underlying t=some (.slice e)) (hi:P.info? e=some i) (hz:i.zero=some z)
 (hsize:i.size=size) (hby:i.bytes=bytes) (hzs:z.cells.size=size) (hsz:0 < size)
 (v:Value) (n:Nat) (xs:List Value) (hs:a.eval s=v) (hown:w.ownsRow base e size v n xs)
 (ad:Addr) (m c:Nat) (news:List Value) (hx:a.eval x= .slice (some ad) m c) (hl:news.length=m*size) (hnews:∀j u,news[j]?=some u→w.cell? (ad.add j)=some u) (h1:∀u∈news,u.oneCell'=true)
 (h63:n+m≤maxLen) (hbytes:(n+m)*bytes≤140737488355328) (hbase:base≤w.heap.size)
 (h:∀v' w',w'.ownsRow base e size v' (n+m) (xs++news)→w.grownBy w' v.ownBlock→(∀x,v'.ownBlock=some x→v.ownBlock=some x∨w.heap.size≤x)→K (a.put o.dst v') w'):o.wp P a w K Q:=by
 obtain⟨v',w',hr,h2,h3,h4⟩:=run_append_where w base t o.type e i z size bytes ht hi hz hsize hby hzs hsz v n xs hown ad m c news hl hnews h1 h63 hbytes hbase;exact Lib.wp_append_run w s x t t ho _ _ hs hx v' w' hr (h v' w' h2 h3 h4)
namespace Mth
def upB (l:List Int) (i:Nat):Bool:=if i=0 then l[i]?.getD 0 == -1 else decide (0≤l[i]?.getD 0∧l[i]?.getD 0 < i)
def upsB (l:List Int) (k:Nat):Bool:=(List.range k).all (upB l)
def treeB (l:List Int):Bool:=decide (1≤l.length)&&decide (l.length≤30)&&upsB l l.length
theorem upsB_zero (l:List Int):upsB l 0=true:=rfl
theorem upsB_succ (l:List Int) (k:Nat):upsB l (k+1)=(upsB l k&&upB l k):=by simp[upsB,List.range_succ]
theorem upB_zero (l:List Int) (h:0 < l.length):upB l 0=decide (l[0]= -1):=by
 unfold upB;rw [if_pos rfl,List.getElem?_eq_getElem h,Option.getD_some];by_cases h:l[0]= -1<;>simp[h]
theorem upB_pos (l:List Int) (i:Nat) (h0:0 < i) (h:i < l.length):upB l i=decide (0≤l[i]∧l[i] < (i:Int)):=by
 unfold upB;rw [if_neg (by omega),List.getElem?_eq_getElem h,Option.getD_some]
theorem upsB_bad (l:List Int) (k n:Nat) (hk:k < n) (h:upB l k=false):upsB l n=false:=by
 cases hc:upsB l n with
 |false=>rfl
 |true=>
  unfold upsB at hc
  rw [List.all_eq_true] at hc
  rw [hc k (by simpa using hk)] at h
  cases h
theorem upsB_at (l:List Int) (k n:Nat) (hk:k < n) (h:upsB l n=true):upB l k=true:=by
 unfold upsB at h;rw [List.all_eq_true] at h;exact h k (by simpa using hk)
structure TreeP (l:List Int):Prop where
 pos:0 < l.length
 le:l.length≤30
 root:l[0]?=some (-1)
 up:∀i (h:i < l.length),0 < i→0≤l[i]∧l[i] < (i:Int)
theorem TreeP.of {l:List Int} (h:treeB l=true):TreeP l:=by
 unfold treeB at h;simp only[Bool.and_eq_true,decide_eq_true_eq] at h;have h0:0 < l.length:=by omega
 refine⟨h0,h.1.2,?_,fun i hi hp=>?_⟩
 ·have:=upsB_at l 0 _ h0 h.2;rw [upB_zero l h0,decide_eq_true_eq] at this;rw [List.getElem?_eq_getElem h0,this]
 ·have:=upsB_at l i _ hi h.2;rw [upB_pos l i hp hi,decide_eq_true_eq] at this;exact this
theorem treeB_len (l:List Int) (h:l.length=0∨30 < l.length):treeB l=false:=by
 unfold treeB;rcases h with h|h
 ·rw [decide_eq_false (show¬1≤l.length by omega)];rfl
 ·rw [decide_eq_false (show¬l.length≤30 by omega)];simp
theorem treeB_bad (l:List Int) (k:Nat) (hk:k < l.length) (h:upB l k=false):treeB l=false:=by
 unfold treeB;rw [upsB_bad l k _ hk h];simp
theorem treeB_good (l:List Int) (h0:1≤l.length) (h1:l.length≤30) (h:upsB l l.length=true):treeB l=true:=by
 unfold treeB;rw [h,decide_eq_true h0,decide_eq_true h1];rfl
theorem treeB_fit (l:List Int) (h:upsB l l.length=true):treeB l=decide (1≤(l.length:Int)∧(l.length:Int)≤30):=by
 unfold treeB;rw [h,Bool.and_true];by_cases h1:1≤l.length<;>by_cases h2:l.length≤30<;>simp[h1,h2]<;>omega
end Mth
set_option maxHeartbeats 2000000
set_option maxRecDepth 100000
abbrev trv (a:Option Addr) (l:List Int) (cap:Nat):Value:= .agg #[.slice a l.length cap]
theorem tree_new (w:World) (v:Value) (t:TypeId):(w.alloc (.cells #[v] t)).cell? ⟨w.heap.size,0,none⟩=some v:=by simp
theorem below_same_heap {B:Nat} {w wr w':World} (h:Below B w wr) (h1:w'.heap=wr.heap:=by rfl) (h2:w'.os=wr.os:=by rfl) (h3:w'.tape=wr.tape:=by rfl) (h4:w'.output=wr.output:=by rfl):Below B w w':=
 ⟨h2.trans h.os,h3.trans h.tape,h4.trans h.output,by rw [h1];exact h.size,fun k hk=>by rw [h1];exact h.block k hk⟩
theorem specTreeOk (a:Option Addr) (cap:Nat) (l:List Int) (w:World) (hl:l.length≤1048600) (ha:IntsAt w a l):
 Calls Try.prog 14 #[trv a l cap] w fun e w'=>e= .returned (.bool (treeB l))∧Below w.heap.size w w':=by
 have HA:=hide ha;clear ha;go_enter Try.func14,Try.ntmps14
 go_wp2_with fail;go_loopw [3] (fun i wr=>∃k:Nat,k≤l.length∧i= .int .i64 k∧upsB l k=true∧wr.cell? ⟨w.heap.size,0,none⟩=some (.slice a l.length cap)∧w.heap.size < wr.heap.size∧Below w.heap.size w wr) (fun i _=>l.length - (intOf i).toNat)
 case atStart=>exact⟨0,Nat.zero_le _,rfl,upsB_zero l,tree_new _ _ _,by simp,below_one' w _⟩
 case round=>
  obtain⟨k,hk,rfl,hu,ht,hsz,hbel⟩:=hrel;have HBL:=hide hbel;have HU:=hide hu;clear hbel hu;by_cases hlt:k < l.length
  ·obtain⟨g,off,rfl,hgw,q0⟩:=IntsAt.one (GR.At.below HA HBL) k hlt;by_cases hk0:k=0
   ·subst hk0;rw [Nat.add_zero] at q0;have hz:upB l 0=decide (l[0]= -1):=upB_zero l hlt;generalize l[0]=pu at *;by_cases hp:pu= -1
    ·subst hp;have HS:=hide (show upsB l (0+1)=true by rw [upsB_succ,unhide HU,hz];rfl);clear hz;go_wp2_with fail;go_roundw
     case rel=>exact⟨1,by omega,by go_num,HS,ht,hsz,HBL⟩
     case measure=>simp[intOf];omega
    ·have HE:=hide (treeB_bad l 0 hlt (by rw [hz];simpa using hp));have hne:(pu != -1)=true:=by simpa using hp
     exact Za24
   ·have hz:upB l k=decide (0≤l[k]∧l[k] < (k:Int)):=upB_pos l k (by omega) hlt;generalize l[k]=pu at *;by_cases hp:0≤pu∧pu < (k:Int)
    ·have HS:=hide (show upsB l (k+1)=true by rw [upsB_succ,unhide HU,hz,decide_eq_true hp];rfl);have hc:=fun W=>l01In_yes pu 0 ((k:Int) - 1) W (by omega) (by omega)
     clear hz;go_wp2_with (go_at_call 33;refine(hc _).mono ?_;rintro e w1 ⟨rfl,rfl⟩)
     go_roundw
     case rel=>exact⟨k+1,by omega,by go_num,HS,ht,hsz,HBL⟩
     case measure=>simp[intOf];omega
    ·have HE:=hide (treeB_bad l k hlt (by rw [hz];exact decide_eq_false hp));have hc:=fun W=>l01In_no pu 0 ((k:Int) - 1) W (by omega)
     clear hz;go_wp2_with (go_at_call 33;refine(hc _).mono ?_;rintro e w1 ⟨rfl,rfl⟩)
     go_ret;exact⟨ret_bool HE.symm,HBL⟩
  ·have hke:k=l.length:=by omega
   subst hke;have HF:=hide (treeB_fit l HU);by_cases hin:1≤(l.length:Int)∧(l.length:Int)≤30
   ·have hc:=fun W=>l01In_yes (l.length:Int) 1 30 W hin.1 hin.2
    go_wp2_with (go_at_call 33;refine(hc _).mono ?_;rintro e w1 ⟨rfl,rfl⟩)
    go_ret;exact⟨ret_bool (by rw [unhide HF,decide_eq_true hin]),HBL⟩
   ·have hc:=fun W=>l01In_no (l.length:Int) 1 30 W (by omega)
    go_wp2_with (go_at_call 33;refine(hc _).mono ?_;rintro e w1 ⟨rfl,rfl⟩)
    go_ret;exact⟨ret_bool (by rw [unhide HF,decide_eq_false hin]),HBL⟩
theorem implOk (a:Option Addr) (cap:Nat) (l:List Int) (w:World) (hl:l.length≤1048600) (ha:IntsAt w a l):
 Calls Try.prog 18 #[trv a l cap] w fun e w'=>e= .returned (.bool (treeB l))∧Below w.heap.size w w':=by
 have HA:=hide ha;clear ha;by_cases h0:l.length=0
 ·have HE:=hide (treeB_len l (.inl h0));go_enter Try.func18,Try.ntmps18
  have hd:((l.length:Int) == 0)=true:=by simpa using h0
  exact Za29
 by_cases h30:30 < l.length
 ·have HE:=hide (treeB_len l (.inr h30));go_enter Try.func18,Try.ntmps18
  have hd:((l.length:Int) == 0)=false:=by simpa using h0
  exact Za29
 have hd:((l.length:Int) == 0)=false:=by simpa using h0
 obtain⟨g,off,rfl,hgw,q0⟩:=IntsAt.one HA 0 (by omega);rw [Nat.add_zero] at q0;have hz:=hide (upB_zero l (by omega));generalize l[0]=pr at *;have hb1:Below w.heap.size w (w.alloc (.cells #[.slice (some ⟨g,off,none⟩) l.length cap] 28)):=below_one' w _;have q1:(w.alloc (.cells #[.slice (some ⟨g,off,none⟩) l.length cap] 28)).cell? ⟨g,off,none⟩=some (.int .i64 pr):=(hb1.cell (p:=⟨g,off,none⟩) hgw).trans q0;clear q0 hb1;by_cases hp:pr= -1
 case neg=>
  have HE:=hide (treeB_bad l 0 (by omega) (by rw [unhide hz];simpa using hp));have hne:(pr != -1)=true:=by simpa using hp
  go_enter Try.func18,Try.ntmps18
  exact Za29
 subst hp;have HU1:=hide (show upsB l 1=true by rw [upsB_succ,upsB_zero,unhide hz];rfl);go_enter Try.func18,Try.ntmps18
 go_wp2_with fail;go_loopw [3] (fun i wr=>∃k:Nat,1≤k∧k≤l.length∧i= .int .i64 k∧upsB l k=true∧wr.cell? ⟨w.heap.size,0,none⟩=some (.slice (some ⟨g,off,none⟩) l.length cap)∧w.heap.size < wr.heap.size∧Below w.heap.size w wr) (fun i _=>l.length - (intOf i).toNat)
 case atStart=>exact⟨1,Nat.le_refl _,by omega,rfl,HU1,tree_new _ _ _,by simp,below_one' w _⟩
 case round=>
  obtain⟨k,hk1,hk,rfl,hu,ht,hsz,hbel⟩:=hrel;have HBL:=hide hbel;have HU:=hide hu;clear hbel hu q1;by_cases hlt:k < l.length
  ·obtain⟨g',off',eq,hgw',q0⟩:=IntsAt.one (GR.At.below HA HBL) k hlt;cases eq
   have hz:upB l k=decide (0≤l[k]∧l[k] < (k:Int)):=upB_pos l k (by omega) hlt;generalize l[k]=pu at *;by_cases hp:0≤pu
   ·by_cases hp2:pu < (k:Int)
    ·have HS:=hide (show upsB l (k+1)=true by rw [upsB_succ,unhide HU,hz,decide_eq_true ⟨hp,hp2⟩];rfl);clear hz;go_wp2_with fail;go_roundw
     case rel=>exact⟨k+1,by omega,by omega,by go_num,HS,ht,hsz,HBL⟩
     case measure=>simp[intOf];omega
    ·have HE:=hide (treeB_bad l k hlt (by rw [hz];exact decide_eq_false (fun h=>hp2 h.2)));exact Za24
   ·have HE:=hide (treeB_bad l k hlt (by rw [hz];exact decide_eq_false (fun h=>hp h.1)));exact Za24
  ·have hke:k=l.length:=by omega
   subst hke;have HF:=hide (treeB_good l hk1 (by omega) HU);go_wp2_with fail;go_ret;exact⟨ret_bool HF.symm,HBL⟩
theorem szTree (a:Option Addr) (ca:Nat) (l:List Int) (z0:Int) (w:World) (h0:0≤z0) (h1:z0≤1048576) (hl:l.length≤maxLen):
 Calls Try.prog 4 #[trv a l ca,.int .i64 z0] w fun e w'=>e= .returned (.int .i64 (if (l.length:Int)≤z0 then z0 - l.length else -1))∧Below w.heap.size w w':=by
 have HC:=hide (fun W=>szIntS a ca l z0 W h0 h1 hl);by_cases hc:(l.length:Int)≤z0
 ·rw [if_pos hc] at *;have hn:decide (z0 - (l.length:Int) < 0)=false:=decide_eq_false (by omega);exact Za26
 ·rw [if_neg hc] at *;exact Za26
theorem tr_lt {w:World} {g:Nat} {o:Obj} (h:w.heap[g]?=some o):g < w.heap.size:=by
 exact Za16
theorem tr_step {w w':World} {g:Nat} {o:Obj} (h:w.heap[g]?=some o) (hb:Below w.heap.size w w'):w'.heap[g]?=some o:=by
 rw [hb.block g (tr_lt h)];exact h
theorem one_at {w:World} {g:Nat} {v:Value} {t:TypeId} (h:w.heap[g]?=some (.cells #[v] t (0,0))):w.cell? ⟨g,0,none⟩=some v∧w.frozen? ⟨g,0,none⟩=false:=by
 refine⟨?_,?_⟩
 ·rw [cell_of_row w g _ _ t (0,0) h];rfl
 ·unfold World.frozen?;rw [h];simp
theorem one_set {w:World} {g:Nat} {v:Value} {t:TypeId} (u:Value) (h:w.heap[g]?=some (.cells #[v] t (0,0))):(w.setCell ⟨g,0,none⟩ u).heap[g]?=some (.cells #[u] t (0,0)):=by
 unfold World.setCell;simp only[Array.getElem?_modify];rw [if_pos trivial,h];simp
theorem one_other {w:World} {g g':Nat} {o:Obj} (u:Value) (hne:g'≠g) (h:w.heap[g']?=some o):(w.setCell ⟨g,0,none⟩ u).heap[g']?=some o:=(Below.heap_setCell _ _ _ _ hne).trans h
theorem bodyPost_atT {P:Program} {fn:Func} {Q:Ending→World→Prop} {x:Exit} {act:Act} {W:World} (h:∀W',W'=W→bodyPost P fn Q x act W'):bodyPost P fn Q x act W:=h W rfl
theorem toTree (a:Option Addr) (cap:Nat) (l:List Int) (w:World) (hl:l.length≤1048576) (ha:IntsAt w a l):
 Calls Try.prog 6 #[trv a l cap] w fun e w'=>∃g,e= .returned (trv (some ⟨g,0,none⟩) l l.length)∧w.heap.size≤g∧intBlk w' g l∧Below w.heap.size w w':=by
 have HC:=hide (fun W (hb:Below w.heap.size w W)=>toIntS a cap l W hl (GR.At.below ha hb));clear ha;go_enter Try.func6,Try.ntmps6
 go_wp2_with fail;generalize hW:((w.alloc (.cells #[.slice a l.length cap] 24)).alloc (.cells #[.slice none 0 0] 28)).alloc (.cells #[.slice none 0 0] 28)=W at *;have hb0:Below w.heap.size w W:=by rw [←hW];exact(((below_one' w _).alloc (by simp) _).alloc (by simp;omega) _)
 have hO1:W.heap[w.heap.size+1]?=some (.cells #[.slice none 0 0] 28 (0,0)):=by
  rw [←hW];refine(Below.heap_alloc _ _ _ (by simp)).trans ?_;have:=heap_alloc_new (w.alloc (.cells #[.slice a l.length cap] 24)) (.cells #[.slice none 0 0] 28);rwa [World.size_alloc] at this
 have hO2:W.heap[w.heap.size+1+1]?=some (.cells #[.slice none 0 0] 28 (0,0)):=by
  rw [←hW];have:=heap_alloc_new ((w.alloc (.cells #[.slice a l.length cap] 24)).alloc (.cells #[.slice none 0 0] 28)) (.cells #[.slice none 0 0] 28);rwa [World.size_alloc,World.size_alloc] at this
 refine(HC _ hb0).mono ?_;rintro e w1 ⟨rfl,hblk,hb1⟩;have hP1:=tr_step hO1 hb1;have hP2:=tr_step hO2 hb1;have HB:=hide (hb0.trans (hb1.mono hb0.size));have hz1:=tr_lt hO2;clear hb0 hb1 hO1 hO2 hW;have HK:=hide hblk;have HP1:=hide hP1;have HP2:=hide hP2;obtain⟨c1,f1⟩:=one_at hP1;obtain⟨c2,f2⟩:=one_at hP2;clear hP1 hP2 hblk;go_wp2_with fail;refine bodyPost_atT (fun W' hW'=>?_);have h2:=one_set (.slice (some ⟨W.heap.size,0,none⟩) l.length l.length) HP2;have h1:=one_set (.slice (some ⟨W.heap.size,0,none⟩) l.length l.length) (one_other (.slice (some ⟨W.heap.size,0,none⟩) l.length l.length) (show w.heap.size+1≠w.heap.size+1+1 by omega) HP1);rw [←hW'] at h1;have r0:=(one_at h1).1;refine bodyPost_ret (v:= .agg #[.slice (some ⟨W.heap.size,0,none⟩) l.length l.length]) (by simp[results,Try.results6,go_sem,r0]) rfl ⟨_,rfl,by omega,?_,?_⟩
 ·rw [hW'];unfold intBlk GR.Blk;exact one_other _ (by omega) (one_other _ (by omega) HK)
 ·rw [hW'];exact(HB.setCell (p:=⟨w.heap.size+1+1,0,none⟩) (by simp;omega) _).setCell (p:=⟨w.heap.size+1,0,none⟩) (by simp) _
theorem eqTree (a b:Option Addr) (ca cb:Nat) (l:List Int) (w:World) (hl:l.length≤1048600) (ha:IntsAt w a l) (hb:IntsAt w b l):
 Calls Try.prog 9 #[trv a l ca,trv b l cb] w fun e w'=>e= .returned (.bool true)∧Below w.heap.size w w':=by
 have HC:=hide (fun W (hw:Below w.heap.size w W)=>eqIntS a b ca cb l W hl (GR.At.below ha hw) (GR.At.below hb hw));clear ha hb;go_enter Try.func9,Try.ntmps9
 have HB:=hide (show Below w.heap.size w ((w.alloc (.cells #[.slice a l.length ca] 28)).alloc (.cells #[.slice b l.length cb] 28)) from(below_one' w _).alloc (by simp) _);go_wp2_with (go_at_call 22;refine(HC _ HB).mono ?_;rintro e w1 ⟨rfl,hb2⟩)
 go_ret;exact⟨rfl,HB.trans (hb2.mono HB.size)⟩
structure R9 where
 id:Int
 par:Int
 next:Int
 old:Int
 k:Value
 p:Value
 o:Value
 s:Value
 r:Value
abbrev enc9 (x:R9):List Value:=[.int .i64 x.id,.int .i64 x.par,x.k,.int .i64 x.next,x.p,x.o,x.s,.int .i64 x.old,x.r]
theorem enc9_length (x:R9):(enc9 x).length=9:=rfl
abbrev NdI:=Nd×Ads×Blks
def r9 (x:NdI):R9:=⟨x.1.id,x.1.par,x.1.next,x.1.old,.slice x.2.1.k x.1.kids.length x.2.1.ck,.slice x.2.1.p x.1.pu.length x.2.1.cp,.slice x.2.1.o x.1.out.length x.2.1.co,.slice x.2.1.s x.1.seen.length x.2.1.cs,.slice x.2.1.r x.1.reqs.length x.2.1.cr⟩
theorem r9_ndc (x:NdI):enc9 (r9 x)=(ndc x.1 x.2.1).toList:=rfl
def rows9 (L:List NdI):List R9:=L.map r9
theorem rows9_length (L:List NdI):(rows9 L).length=L.length:=by simp[rows9]
def fpN (L:List NdI):List Nat:=L.flatMap fun x=>x.2.2.all x.1
theorem fpN_snoc (L:List NdI) (x:NdI):fpN (L++[x])=fpN L++x.2.2.all x.1:=by simp[fpN]
theorem fpN_mem {L:List NdI} {x:NdI} (h:x∈L):∀b∈x.2.2.all x.1,b∈fpN L:=fun _ hb=>List.mem_flatMap.2 ⟨x,h,hb⟩
structure NL (w:World) (lo:Nat) (v:Value) (L:List NdI):Prop where
 own:w.ownsRow lo 42 9 v L.length (GR.flat enc9 (rows9 L))
 each:∀x∈L,NodeW w x.2.1 x.2.2 x.1
 rng:∀b∈fpN L,lo≤b∧b < w.heap.size
 nd:(fpN L).Nodup
 ne:∀b,v.ownBlock=some b→b∉fpN L
theorem NL.step {w w':World} {lo:Nat} {v:Value} {L:List NdI} (h:NL w lo v L) (hb:Below w.heap.size w w'):NL w' lo v L:=
 ⟨GR.own_below h.own hb,fun x hx=>(h.each x hx).below hb,fun b hb2=>⟨(h.rng b hb2).1,Nat.lt_of_lt_of_le (h.rng b hb2).2 hb.size⟩,h.nd,h.ne⟩
theorem NL.lower {w:World} {lo lo':Nat} {v:Value} {L:List NdI} (h:NL w lo v L) (hl:lo'≤lo):NL w lo' v L:=
 ⟨GR.own_lower h.own hl,h.each,fun b hb=>⟨Nat.le_trans hl (h.rng b hb).1,(h.rng b hb).2⟩,h.nd,h.ne⟩
theorem NL.blk_lt {w:World} {lo:Nat} {v:Value} {L:List NdI} (h:NL w lo v L):∀b,v.ownBlock=some b→lo≤b∧b < w.heap.size:=fun b hb=>h.own.lt b hb
theorem NL.app {w w6:World} {lo m:Nat} {v v':Value} {L:List NdI} {x:NdI} (h:NL w lo v L) (hx:NodeW w x.2.1 x.2.2 x.1) (hlo:lo≤m) (hnd:(x.2.2.all x.1).Nodup) (hrng:∀b∈x.2.2.all x.1,m≤b∧b < w.heap.size)
 (hL:∀b∈fpN L,b < m) (hv:∀b,v.ownBlock=some b→b < m)
 (hown:w6.ownsRow lo 42 9 v' (L.length+1) (GR.flat enc9 (rows9 L)++enc9 (r9 x))) (hg:w.grownBy w6 v.ownBlock) (hv':∀b,v'.ownBlock=some b→v.ownBlock=some b∨w.heap.size≤b):NL w6 lo v' (L++[x]):=by
 have hk:KeepsL v.ownBlock.toList w w6:=⟨hg.os,hg.tape,hg.output,hg.size,fun k hk hm=>hg.block k hk (fun e=>hm (by rw [←e];simp))⟩
 have hsame:∀b,b∈v.ownBlock.toList→v.ownBlock=some b:=fun b hb=>by
  cases hv2:v.ownBlock with
  |none=>rw [hv2] at hb;simp at hb
  |some c=>rw [hv2] at hb;simp at hb;rw [hb]
 refine⟨?_,fun y hy=>?_,fun b hb=>?_,?_,fun b hb hm=>?_⟩
 ·have e:rows9 (L++[x])=rows9 L++[r9 x]:=by simp[rows9]
  rw [e,List.length_append,GR.flat_append,GR.flat_one];exact hown
 ·rcases List.mem_append.1 hy with hy|hy
  ·exact(h.each y hy).keeps hk (fun b hb hm=>h.ne b (hsame b hm) (fpN_mem hy b hb))
  ·obtain rfl:y=x:=by simpa using hy
   exact hx.keeps hk (fun b hb hm=>by have h1:=hv b (hsame b hm);have h2:=(hrng b hb).1;omega)
 ·have hs:=hg.size;rw [fpN_snoc,List.mem_append] at hb;rcases hb with hb|hb
  ·have:=h.rng b hb;omega
  ·have:=hrng b hb;omega
 ·rw [fpN_snoc];exact List.nodup_append.2 ⟨h.nd,hnd,fun a ha b hb e=>by have h1:=hL a ha;have h2:=(hrng b hb).1;omega⟩
 ·rw [fpN_snoc,List.mem_append] at hm;rcases hv' b hb with h1|h1
  ·rcases hm with hm|hm
   ·exact h.ne b h1 hm
   ·have h2:=hv b h1;have h3:=(hrng b hm).1;omega
  ·rcases hm with hm|hm
   ·have:=(h.rng b hm).2;omega
   ·have:=(hrng b hm).2;omega
def GivesNL (w:World) (ns:List Nd) (e:Ending) (w':World):Prop:=∃v L,e= .returned v∧L.map (fun x=>x.1)=ns∧NL w' w.heap.size v L∧Below w.heap.size w w'
theorem infoNode:(Try.prog.info? 42).map (fun i=>(i.zero,i.size,i.bytes))=some (some (.agg zc9),9,152):=by kernel_rfl
namespace Mth
def aboves (l:List Int):Nat→Nat→List Nat
 |0,_=>[]
 |f+1,n=>if 0≤l[n]?.getD (-1) then(l[n]?.getD (-1)).toNat::aboves l f (l[n]?.getD (-1)).toNat else[]
def upN (l:List Int) (n:Nat):List Nat:=aboves l n n
theorem aboves_more {l:List Int} (h:TreeP l):∀(n f:Nat),n < l.length→n≤f→aboves l f n=upN l n:=by
 intro n;induction n using Nat.strongRecOn with
 |_ n ih=>
  intro f hn hf
  by_cases h0:n=0
  ·subst h0;cases f with
   |zero=>rfl
   |succ f=>
    have e:l[0]?.getD (-1)= -1:=by rw [h.root];rfl
    unfold upN
    simp only[aboves]
    rw [e,if_neg (by omega)]
  ·have hp:0 < n:=by omega
   obtain⟨h1,h2⟩:=h.up n hn hp;have e:l[n]?.getD (-1)=l[n]:=by rw [List.getElem?_eq_getElem hn];rfl
   obtain⟨f,rfl⟩:∃g,f=g+1:=⟨f - 1,by omega⟩;obtain⟨m,hm⟩:∃m,n=m+1:=⟨n - 1,by omega⟩;unfold upN;rw [show aboves l n n=aboves l (m+1) n by rw [←hm]];simp only[aboves];rw [e,if_pos h1,if_pos h1];have hlt:l[n].toNat < n:=by omega
   rw [ih _ hlt f (by omega) (by omega),ih _ hlt m (by omega) (by omega)]
theorem upN_zero (l:List Int):upN l 0=[]:=rfl
theorem upN_pos {l:List Int} (h:TreeP l) (n:Nat) (hn:n < l.length) (hp:0 < n):upN l n=l[n].toNat::upN l l[n].toNat:=by
 obtain⟨h1,h2⟩:=h.up n hn hp;have e:l[n]?.getD (-1)=l[n]:=by rw [List.getElem?_eq_getElem hn];rfl
 obtain⟨m,hm⟩:∃m,n=m+1:=⟨n - 1,by omega⟩;unfold upN;rw [show aboves l n n=aboves l (m+1) n by rw [←hm]];simp only[aboves];rw [e,if_pos h1,aboves_more h _ m (by omega) (by omega)];rfl
theorem TreeP.at_zero {l:List Int} (h:TreeP l):l[0]'h.pos= -1:=by
 have:=h.root;rw [List.getElem?_eq_getElem h.pos] at this;exact Option.some.inj this
theorem upN_len {l:List Int} (h:TreeP l):∀n,n < l.length→(upN l n).length≤n:=by
 intro n;induction n using Nat.strongRecOn with
 |_ n ih=>
  intro hn
  by_cases h0:n=0
  ·subst h0;simp[upN_zero]
  ·obtain⟨h1,h2⟩:=h.up n hn (by omega);rw [upN_pos h n hn (by omega),List.length_cons];have:=ih l[n].toNat (by omega) (by omega);omega
theorem upN_lt {l:List Int} (h:TreeP l):∀n,n < l.length→∀x∈upN l n,x < n:=by
 intro n;induction n using Nat.strongRecOn with
 |_ n ih=>
  intro hn x hx
  by_cases h0:n=0
  ·subst h0;simp[upN_zero] at hx
  ·obtain⟨h1,h2⟩:=h.up n hn (by omega);rw [upN_pos h n hn (by omega),List.mem_cons] at hx;rcases hx with rfl|hx
   ·omega
   ·have:=ih l[n].toNat (by omega) (by omega) x hx;omega
def depthN (l:List Int) (n:Int):Int:=if (treeB l&&decide (0≤n)&&decide (n < (l.length:Int)))=true then(upN l n.toNat).length else -1
theorem depthN_no (l:List Int) (n:Int) (h:treeB l=false∨n < 0∨(l.length:Int)≤n):depthN l n= -1:=by
 unfold depthN;rw [if_neg];intro h';simp only[Bool.and_eq_true,decide_eq_true_eq] at h';rcases h with h|h|h
 ·rw [h] at h';exact absurd h'.1.1 (by simp)
 ·omega
 ·omega
theorem depthN_yes (l:List Int) (n:Nat) (h:treeB l=true) (hn:n < l.length):depthN l n=(upN l n).length:=by
 unfold depthN;rw [if_pos (by rw [h,decide_eq_true (show(0:Int)≤n by omega),decide_eq_true (show(n:Int) < l.length by omega)];rfl)];simp
end Mth
set_option maxHeartbeats 2000000
namespace Mth
def kidsTo (l:List Int) (n:Int) (k:Nat):List Int:=((List.range k).filter (fun i=>decide (l[i]?.getD (-1)=n))).map (fun i:Nat=>(i:Int))
def kidsN (l:List Int) (n:Int):List Int:=kidsTo l n l.length
theorem kidsTo_yes (l:List Int) (n:Int) (k:Nat) (hk:k < l.length) (h:l[k]=n):kidsTo l n (k+1)=kidsTo l n k++[(k:Int)]:=by
 unfold kidsTo;rw [List.range_succ,List.filter_append,List.map_append];congr 1
 rw [List.filter_cons_of_pos (by rw [List.getElem?_eq_getElem hk,Option.getD_some,h];simp)];rfl
theorem kidsTo_no (l:List Int) (n:Int) (k:Nat) (hk:k < l.length) (h:l[k]≠n):kidsTo l n (k+1)=kidsTo l n k:=by
 unfold kidsTo;rw [List.range_succ,List.filter_append,List.map_append];rw [List.filter_cons_of_neg (by rw [List.getElem?_eq_getElem hk,Option.getD_some];simpa using h)];simp
theorem kidsTo_one {l:List Int} (hT:TreeP l) (n:Int) (hn:0≤n):kidsTo l n 1=[]:=by
 rw [kidsTo_no l n 0 hT.pos (by rw [hT.at_zero];omega)];rfl
theorem kidsTo_len (l:List Int) (n:Int) (k:Nat):(kidsTo l n k).length≤k:=by
 unfold kidsTo;rw [List.length_map];exact Nat.le_trans (List.length_filter_le _ _) (by simp)
theorem kids_mem (l:List Int) (n:Int) (k:Nat) (x:Int):x∈kidsTo l n k↔∃i:Nat,i < k∧x=(i:Int)∧l[i]?.getD (-1)=n:=by
 unfold kidsTo;simp only[List.mem_map,List.mem_filter,List.mem_range,decide_eq_true_eq];constructor
 ·rintro⟨i,⟨h1,h2⟩,rfl⟩;exact⟨i,h1,rfl,h2⟩
 ·rintro⟨i,h1,rfl,h2⟩;exact⟨i,⟨h1,h2⟩,rfl⟩
end Mth
theorem infoIntK:(Try.prog.info? 3).map (fun i=>(i.zero,i.size,i.bytes))=some (some (.int .i64 0),1,8):=by kernel_rfl
theorem flat_snoc_int (l:List Int) (x:Int):GR.flat encNum (l++[x])=GR.flat encNum l++[.int .i64 x]:=by rw [GR.flat_append,GR.flat_one]
theorem specKidsOf (a:Option Addr) (cap:Nat) (l:List Int) (n:Int) (w:World) (hl:l.length≤1048600) (ha:IntsAt w a l) (htb:treeB l=true) (hn:0≤n):
 Calls Try.prog 16 #[trv a l cap,.int .i64 n] w fun e w'=>∃v,e= .returned v∧w'.ownsRow w.heap.size 3 1 v (kidsN l n).length (GR.flat encNum (kidsN l n))∧Below w.heap.size w w':=by
 obtain⟨i0,hi,hz0,hz1,hz2⟩:=info_parts infoIntK;have HTP:=hide (TreeP.of htb);have HT0:=heap_alloc_new w (.cells #[.slice a l.length cap] 28);have HB0:=below_one' w (.cells #[.slice a l.length cap] 28);have HA0:=GR.At.below ha HB0;have hsz0:(w.alloc (.cells #[.slice a l.length cap] 28)).heap.size=w.heap.size+1:=by simp
 have HC:=hide (fun W (hb:Below (w.alloc (.cells #[.slice a l.length cap] 28)).heap.size (w.alloc (.cells #[.slice a l.length cap] 28)) W)=>specTreeOk a cap l W hl (GR.At.below HA0 hb));rw [htb] at HC;clear ha htb;have hl30:=HTP.le;go_enter Try.func16,Try.ntmps16
 go_wp2_with fail;generalize w.alloc (.cells #[.slice a l.length cap] 28)=W0 at *;have HA:=hide HA0;have HB:=hide HB0;have HT:=hide HT0;have HZ:=hide hsz0;clear HA0 HB0 HT0 hsz0;go_loopw [5,6] (fun v i wr=>∃k:Nat,1≤k∧k≤l.length∧i= .int .i64 k∧wr.ownsRow W0.heap.size 3 1 v (kidsTo l n k).length (GR.flat encNum (kidsTo l n k))∧Below W0.heap.size W0 wr) (fun _ i _=>l.length - (intOf i).toNat)
 case atStart=>
  refine⟨1,Nat.le_refl _,HTP.pos,rfl,?_,(Below.refl _ _).alloc (Nat.le_refl _) _⟩;rw [kidsTo_one (unhide HTP) n hn,←unhide HZ];exact World.ownsRow_lit _ #[] 0 (Nat.le_refl _) (by decide) rfl
 case round=>
  obtain⟨k,hk1,hk,rfl,hown,hbel⟩:=hrel;have HBL:=hide hbel;have t1:=(one_at (tr_step HT hbel)).1;by_cases hlt:k < l.length
  ·have hlen:=kidsTo_len l n k;have HOK:=unhide HC _ hbel;clear hbel;go_wp2_with fail;refine HOK.mono ?_;rintro e w1 ⟨rfl,hb1⟩;have HB1:=hide (HBL.trans (hb1.mono HBL.size));have hown1:=GR.own_below hown hb1;have t2:=(one_at (tr_step HT HB1)).1;obtain⟨g,off,rfl,hgw,q0⟩:=IntsAt.one (GR.At.below HA HB1) k hlt;clear hown hb1 t1;by_cases hkn:l[k]=n
   ·open Sa33 in exact Ya10
   ·have HY:=hide (kidsTo_no l n k hlt hkn);generalize l[k]=pu at *;have hnn:(pu == n)=false:=by simpa using hkn
    go_wp2_with fail;go_roundw
    case rel=>exact⟨k+1,by omega,by omega,by go_num,by rw [unhide HY];exact hown1,HB1⟩
    case measure=>simp[intOf];omega
  ·have hke:k=l.length:=by omega
   subst hke;clear hbel;go_wp2_with fail;go_ret;exact⟨_,rfl,GR.own_lower hown (by have:=unhide HZ;omega),HB.trans (HBL.mono HB.size)⟩
end Go.Proofs.Ytheiblbhlmaphaa
