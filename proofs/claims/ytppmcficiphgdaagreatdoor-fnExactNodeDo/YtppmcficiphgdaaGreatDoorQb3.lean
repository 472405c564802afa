/- Parts. -/
import Derived.Test.YtppmcficiphgdaaGreatDoorQb1
import Derived.Test.YtppmcficiphgdaaGreatDoorQa9
import Derived.Test.YtppmcficiphgdaaGreatDoorQa10
import Derived.Test.YtppmcficiphgdaaGreatDoorQbZ3
import Derived.Test.YtppmcficiphgdaaGreatDoorQa12
import Derived.Deep.RegionLaw
import Derived.Deep.QuietTactic
import Derived.BigQuiet
import Derived.Deep.RegionHeldLaw
import Derived.Deep.AppendLies
import Derived.Deep.DeepCutAuto
import Derived.Deep.CutBlock
namespace Go.Proofs.YtppmcficiphgdaaGreatDoor
set_option maxHeartbeats 2000000
set_option maxRecDepth 100000
open Go.RowKit
open Mth
theorem own_lower {w:World} {b b':Nat} {e:TypeId} {sz:Nat} {v:Value} {n:Nat} {xs:List Value} (h:w.ownsRow b e sz v n xs) (hb:b'≤b):w.ownsRow b' e sz v n xs:=by
 refine⟨h.1,?_⟩;rcases h.2 with h2|⟨g,cap,cur,hv,hg,hr⟩
 ·exact .inl h2
 ·exact .inr ⟨g,cap,cur,hv,Nat.le_trans hb hg,hr⟩
theorem l03With_not (a:Option Addr) (cap:Nat) (l:List Pu) (p:Pu) (n:Int) (w:World) (hl:l.length≤1048600) (hk:∀p∈l,p.k.size≤maxLen) (hn:a=none→l.length=0∧cap=0) (ha:PursesAt w a l) (hno:psOk l=false∨¬(1≤n∧n≤1000000000)):
 Calls Tryz.prog 179 #[.slice a l.length cap,puv p,.int .i64 n] w fun e w'=>∃v,e= .returned (.tuple #[v,.bool false])∧v≠ .slice none 0 0∧w'.ownsRow w.heap.size 141 4 v l.length (GR.flat encP l)∧Below w.heap.size w w':=by
 have HOK:=hide (fun w1 (h:PursesAt w1 a l)=>specPursesOk a cap l w1 hl hk h);have HCP:=hide (fun w1 (h:PursesAt w1 a l)=>l03Copy a cap l w1 hl hn h);have HA:=hide ha;clear ha hk hn;obtain⟨pk,pm,pf,ps⟩:=p;go_enter Tryz.func179,Tryz.ntmps179
 go_wp2_with fail;refine(HOK _ (GR.At.below HA (below_one' w _))).mono ?_;rintro e w1 ⟨rfl,hb1⟩;have HB1:=hide ((below_one' w _).trans (hb1.mono (below_one' w _).size));clear hb1;cases hok:psOk l with
 |false=>
  go_wp2_with fail
  refine(HCP _ (GR.At.below HA HB1)).mono ?_
  rintro e w2 ⟨v,rfl,hnn,hrow,hb2⟩
  have HNN:=hide hnn
  have HR:=hide (own_lower hrow HB1.size)
  have HB2:=hide (HB1.trans (hb2.mono HB1.size))
  clear hrow hb2 hnn
  go_wp2_with fail
  refine bodyPost_ret (v:= .tuple #[v,.bool false]) (by simp[results,Tryz.results179,go_sem]) rfl ⟨v,rfl,HNN,HR,HB2⟩
 |true=>
  have hn2:decide (Inn n 1 1000000000)=false:=decide_eq_false (by rcases hno with h|h;(rw [hok] at h;cases h);exact h)
  go_wp2_with fail
  refine(l01InB _ _ _ _).mono ?_
  rintro e w3 ⟨rfl,rfl⟩
  rw [hn2]
  go_wp2_with fail
  refine(HCP _ (GR.At.below HA HB1)).mono ?_
  rintro e w2 ⟨v,rfl,hnn,hrow,hb2⟩
  have HNN:=hide hnn
  have HR:=hide (own_lower hrow HB1.size)
  have HB2:=hide (HB1.trans (hb2.mono HB1.size))
  clear hrow hb2 hnn
  go_wp2_with fail
  refine bodyPost_ret (v:= .tuple #[v,.bool false]) (by simp[results,Tryz.results179,go_sem]) rfl ⟨v,rfl,HNN,HR,HB2⟩
theorem while_at (f:Pu→Bool):∀(l:List Pu) (k:Nat),k≤l.length→(∀q∈l.take k,f q=true)→(∀h:k < l.length,f l[k]=false)→l.takeWhile f=l.take k∧l.dropWhile f=l.drop k:=by
 intro l;induction l with
 |nil=>intro k hk _ _;simp
 |cons x r ih=>
  intro k hk h1 h2
  cases k with
  |zero=>
   have hx:f x=false:=h2 (by simp)
   simp[hx]
  |succ k=>
   have hx:f x=true:=h1 x (by simp)
   obtain⟨g1,g2⟩:=ih k (by simpa using hk) (fun q hq=>h1 q (by simp[hq])) (fun h=>h2 (by simpa using h))
   simp[hx,g1,g2]
set_option maxHeartbeats 4000000
theorem At_drop {w:World} {b off:Nat} {l:List Pu} (h:PursesAt w (some ⟨b,off,none⟩) l) (k:Nat):PursesAt w (some ⟨b,off+k*4,none⟩) (l.drop k):=fun i hi=>by
 have hi':k+i < l.length:=by simp at hi;omega
 obtain⟨g,o,e,hg,hc⟩:=h (k+i) hi';injection e with e
 injection e with e1 e2
 subst e1 e2;refine⟨b,off+k*4,rfl,hg,fun j hj=>?_⟩;have:=hc j hj;rw [show off+k*4+(i*4+j)=off+((k+i)*4+j) by omega,this];simp
theorem At_take {w:World} {a:Option Addr} {l:List Pu} (h:PursesAt w a l) (k:Nat):PursesAt w a (l.take k):=fun i hi=>by
 have hi':i < l.length:=by simp at hi;omega
 obtain⟨g,o,e,hg,hc⟩:=h i hi';refine⟨g,o,e,hg,fun j hj=>?_⟩;rw [hc j hj];simp
theorem At_none {w:World} {a:Option Addr} {l:List Pu} (h:l=[]):PursesAt w a l:=fun i hi=>by rw [h] at hi;simp at hi
theorem Mth.tail_found {l:List Pu} {k:ByteArray} (h:found l k=true):place l k < l.length∧tailP l k=l.drop (place l k+1):=by
 have hpl:=place_le l k;by_cases hlt:place l k < l.length
 ·refine⟨hlt,?_⟩;unfold found at h;unfold tailP;rw [from_drop,List.drop_eq_getElem_cons hlt] at h ⊢;dsimp only at h ⊢;rw [if_pos h]
 ·unfold found at h;rw [from_drop,List.drop_eq_nil_of_le (by omega)] at h;cases h
theorem Mth.tail_not {l:List Pu} {k:ByteArray} (h:found l k=false):tailP l k=l.drop (place l k):=by
 unfold found at h;unfold tailP;rw [from_drop] at h ⊢;cases hd:l.drop (place l k) with
 |nil=>rfl
 |cons q r=>
  rw [hd] at h
  dsimp only at h ⊢
  rw [h]
  rfl
theorem Mth.put_flat (l:List Pu) (p:Pu):GR.flat encP (l.take (place l p.k))++encP p++GR.flat encP (tailP l p.k)=GR.flat encP (putP l p)∧place l p.k+1+(tailP l p.k).length=(putP l p).length:=by
 have hpl:=place_le l p.k;unfold putP;rw [head_take];constructor
 ·rw [GR.flat_append,GR.flat_cons,List.append_assoc]
 ·simp;omega
theorem Mth.put_mem' {l:List Pu} {p q:Pu} (h:q∈putP l p):q=p∨q∈l:=by
 unfold putP at h;rcases List.mem_append.1 h with h|h
 ·exact .inr ((List.takeWhile_sublist _).mem h)
 ·rcases List.mem_cons.1 h with h|h
  ·exact .inl h
  ·exact .inr ((List.dropWhile_sublist _).mem (tail_sub l p.k q h))
theorem Mth.tail_len (l:List Pu) (k:ByteArray):(tailP l k).length≤l.length:=by
 cases h:found l k
 ·rw [tail_not h];simp
 ·rw [(tail_found h).2];simp
theorem step_append_own {P:Program} (w:World) {ops:Array Oper} {o:Oper} {a:Act} {K:Act→World→Prop} {Q:Exit→Act→World→Prop} {E:Prop} (hgd:o.guard=none) (s x:Operand) (t:TypeId)
 (ho:o.op= .call {callee:= .builtin .append,args:=#[s,x],argTypes:=#[t,t]})
 (base:Nat) (e:TypeId) (i:TypeInfo) (z:Value) (size bytes:Nat) (ht:P.underlying t=some (.slice e)) (hi:P.info? e=some i) (hz:i.zero=some z)
 (hsize:i.size=size) (hby:i.bytes=bytes) (hzs:z.cells.size=size) (hsz:0 < size)
 (v:Value) (n:Nat) (xs:List Value) (hs:a.eval s=v) (hown:w.ownsRow base e size v n xs)
 (ad:Addr) (m c:Nat) (news:List Value) (hx:a.eval x= .slice (some ad) m c) (hl:news.length=m*size) (hnews:∀j u,news[j]?=some u→w.cell? (ad.add j)=some u) (h1:∀u∈news,u.oneCell'=true)
 (h63:n+m≤maxLen) (hbytes:(n+m)*bytes≤140737488355328) (hbase:base≤w.heap.size)
 (h:∀v' w',w'.ownsRow base e size v' (n+m) (xs++news)→w.grownBy w' v.ownBlock→(v'= .slice none 0 0↔v= .slice none 0 0∧m=0)→K (a.put o.dst v') w'):
 if Region.wanted o (yielded ops a.tmps)=true then Oper.wp P o a w K Q else E:=by
 have hw:Region.wanted o (yielded ops a.tmps)=true:=by simp[Region.wanted,hgd]
 rw [if_pos hw];exact wp_append_own w s x t ho base e i z size bytes ht hi hz hsize hby hzs hsz v n xs hs hown ad m c news hx hl hnews h1 h63 hbytes hbase h
theorem grown_below' {w w':World} {B:Nat} {row:Option Nat} (hk:w.grownBy w' row) (hg:∀k,row=some k→B≤k) (hB:B≤w.heap.size):Below B w w':=⟨hk.os,hk.tape,hk.output,hk.size,fun k hl=>hk.block k (by omega) (fun e=>by have:=hg k e.symm;omega)⟩
theorem encP_one1 (p:Pu):∀u∈encP p,u.oneCell'=true:=by
 intro u hu;simp only[encP,List.mem_cons,List.not_mem_nil,or_false] at hu;rcases hu with rfl|rfl|rfl|rfl<;>rfl
theorem own_none (v:Value):v.ownBlock=none∨v.ownBlock≠none:=by
 cases v.ownBlock with
 |none=>exact .inl rfl
 |some k=>exact .inr (by intro e;cases e)
theorem drewN_two (w:World) (a b:Nat):(w.drewN a).drewN b=w.drewN (a+b):=by
 simp[World.drewN,Nat.add_assoc]
theorem Mth.place_at (l:List Pu) (key:ByteArray) (k:Nat) (hk:k≤l.length) (h1:∀q∈l.take k,Op.bytesLess q.k.toList key.toList=true) (h2:∀h:k < l.length,Op.bytesLess l[k].k.toList key.toList=false):place l key=k∧fromP l key=l.drop k:=by
 obtain⟨e1,e2⟩:=while_at (fun q=>Op.bytesLess q.k.toList key.toList) l k hk h1 h2;unfold place headP fromP;rw [e1,e2];exact⟨by simp;omega,rfl⟩
theorem l03With_in (b off:Nat) (cap:Nat) (l:List Pu) (p:Pu) (n:Int) (w:World) (hcap:l.length≤cap) (hk:∀p∈l,p.k.size≤maxLen) (hpk:p.k.size≤maxLen) (ha:PursesAt w (some ⟨b,off,none⟩) l) (hok:psOk l=true) (hn:1≤n∧n≤1000000000):
 Calls Tryz.prog 179 #[.slice (some ⟨b,off,none⟩) l.length cap,puv p,.int .i64 n] w fun e w'=>∃v,e= .returned (.tuple #[v,.bool (withP l p n).2])∧v≠ .slice none 0 0∧w'.ownsRow w.heap.size 141 4 v (withP l p n).1.length (GR.flat encP (withP l p n).1)∧Below w.heap.size w w':=by
 have hl:l.length≤20:=((psOk_iff l).1 hok).2.2;have HOK:=hide (fun w1 (h:PursesAt w1 (some ⟨b,off,none⟩) l)=>specPursesOk (some ⟨b,off,none⟩) cap l w1 (by omega) hk h);have HA:=hide ha;have hn2:decide (Inn n 1 1000000000)=true:=decide_eq_true hn;have HW:=hide (show withP l p n=if psOk (putP l p) then(putP l p,true) else(l,false) by unfold withP;rw [hok,decide_eq_true hn];rfl);clear ha hn;obtain⟨pk,pm,pf,ps⟩:=p;go_enter Tryz.func179,Tryz.ntmps179
 go_wp2_with fail;refine(HOK _ (GR.At.below HA (below_one' w _))).mono ?_;rintro e w1 ⟨rfl,hb1⟩;have HP1:=hide (show w1.heap[w.heap.size]?=some (.cells #[.string pk,.int .i64 pm,.int .i64 pf,.int .i64 ps] 141 (0,0)) by rw [hb1.block w.heap.size (by simp)];exact heap_alloc_new w _);have HB1:=hide ((below_one' w _).trans (hb1.mono (below_one' w _).size))
 have hbw:b < w1.heap.size∨l.length=0:=by
  rcases Nat.eq_zero_or_pos l.length with h|h
  ·exact .inr h
  ·obtain⟨g,o,e,hg,_⟩:=unhide HA 0 h;injection e with e
   injection e with e1 e2
   subst e1;exact .inl (Nat.lt_of_lt_of_le hg HB1.size)
 clear hb1;rw [hok];clear hok;go_wp2_with fail;refine(l01InB _ _ _ _).mono ?_;rintro e w3 ⟨rfl,rfl⟩;rw [hn2];go_upto_block 0 with fail;go_cut [8] (fun i wx=>i= .int .i64 (place l pk:Nat)∧∃q,wx=w1.drewN q)
 case first=>
  go_wp2_with fail;go_loopw [8] (fun i wr=>∃k q:Nat,k≤l.length∧i= .int .i64 k∧(∀x∈l.take k,Op.bytesLess x.k.toList pk.toList=true)∧wr=w1.drewN q) (fun i _=>l.length - (intOf i).toNat)
  case atStart=>exact⟨0,0,Nat.zero_le _,rfl,fun x hx=>by simp at hx,rfl⟩
  case round=>
   obtain⟨k,q,hk1,rfl,hall,rfl⟩:=hrel;have HALL:=hide hall;clear hall;open Sb264 in exact Yb81
 case rest=>
  obtain⟨rfl,q,rfl⟩:=hcut;have hpl:=place_le l pk
  obtain⟨ad,hAd,hAe⟩:∃ad:Addr,(if cap=place l pk then some (⟨b,off,none⟩:Addr) else some ⟨b,off+place l pk*4,none⟩)=some ad∧(place l pk < l.length→ad=⟨b,off+place l pk*4,none⟩):=by
   by_cases h:cap=place l pk
   ·rw [if_pos h];exact⟨_,rfl,fun h2=>by omega⟩
   ·rw [if_neg h];exact⟨_,rfl,fun _=>rfl⟩
  open Sb263 in exact Yb81
set_option maxHeartbeats 4000000
def GivesO (w:World) (r:List Pu×Bool) (e:Ending) (w':World):Prop:=∃v,e= .returned (.tuple #[v,.bool r.2])∧v≠ .slice none 0 0∧w'.ownsRow w.heap.size 141 4 v r.1.length (GR.flat encP r.1)∧Below w.heap.size w w'
theorem Mth.purseOf_am {l:List Pu} {key:ByteArray} (h:psOk l=true):(0≤(purseOf l key).m∧(purseOf l key).m≤1000000000)∧(0≤(purseOf l key).f∧(purseOf l key).f≤1000000000)∧(0≤(purseOf l key).s∧(purseOf l key).s≤1000000000):=by
 obtain⟨h1,_,_⟩:=(psOk_iff l).1 h;unfold purseOf;cases hf:l.find? (fun p=>p.k.toList == key.toList) with
 |none=>simp
 |some q=>
  have hq:=h1 q (List.mem_of_find?_eq_some hf)
  unfold puOk at hq
  simp only[Bool.and_eq_true] at hq
  exact⟨of_decide_eq_true hq.1.1.1.2,of_decide_eq_true hq.1.1.2,of_decide_eq_true hq.1.2⟩
theorem l03Add (b off cap:Nat) (l:List Pu) (key:ByteArray) (dm df ds n:Int) (w:World) (hl:l.length≤1048600) (hcap:l.length≤cap) (hk:∀p∈l,p.k.size≤1048576) (hkey:key.size≤1048576)
 (hd1:dm= -1∨dm=0∨dm=1) (hd2:df= -1∨df=0∨df=1) (hd3:ds= -1∨ds=0∨ds=1) (ha:PursesAt w (some ⟨b,off,none⟩) l):
 Calls Tryz.prog 130 #[.slice (some ⟨b,off,none⟩) l.length cap,.string key,.int .i64 dm,.int .i64 df,.int .i64 ds,.int .i64 n] w (GivesO w (addP l key dm df ds n)):=by
 have hkm:∀p∈l,p.k.size≤maxLen:=fun p hp=>by have:=hk p hp;unfold maxLen;omega
 have HPO:=hide (specPurseOf (some ⟨b,off,none⟩) cap l key w hl ha);have HA:=hide ha;unfold GivesO;by_cases hin:psOk l=true∧1≤n∧n≤1000000000
 ·obtain⟨hok,hn1,hn2⟩:=hin;obtain⟨⟨m0,m1⟩,⟨f0,f1⟩,s0,s1⟩:=purseOf_am (key:=key) hok;obtain⟨u10,u11⟩:=unit_mul hd1 ⟨hn1,hn2⟩;obtain⟨u20,u21⟩:=unit_mul hd2 ⟨hn1,hn2⟩;obtain⟨u30,u31⟩:=unit_mul hd3 ⟨hn1,hn2⟩;have hpk:=purseOf_k l key;have HWI:=hide (fun w1 (hb:Below w.heap.size w w1)=>l03With_in b off cap l (shiftP (purseOf l key) dm df ds n) n w1 hcap hkm (by show(purseOf l key).k.size≤maxLen;rw [hpk];unfold maxLen;omega) (GR.At.below ha hb) hok ⟨hn1,hn2⟩);have hAm:decide (Inn n 0 1000000000)=true:=decide_eq_true ⟨by omega,hn2⟩;unfold addP;clear ha hok hk hkm hd1 hd2 hd3;unfold shiftP at *;generalize purseOf l key=p at *;obtain⟨pk,pm,pf,ps⟩:=p;dsimp only at *;subst hpk;generalize withP l ⟨pk,pm+dm*n,pf+df*n,ps+ds*n⟩ n=r at *;go_enter Tryz.func130,Tryz.ntmps130
  go_wp2_with fail;refine HPO.mono ?_;rintro e w1 ⟨rfl,hb1⟩;have HB1:=hide hb1;clear hb1 HPO;go_wp2_with (go_at_call 47;refine(l01Amount _ _).mono ?_;rintro e w2 ⟨rfl,rfl⟩;rw [hAm])
  refine(HWI _ (HB1.alloc HB1.size _)).mono ?_;rintro e w3 ⟨v,rfl,hv,hown,hb3⟩;have HB3:=hide ((HB1.alloc HB1.size _).trans (hb3.mono (by have:=HB1.size;simp;omega)));have HO3:=hide (own_lower (b':=w.heap.size) hown (by have:=HB1.size;simp;omega));have HV:=hide hv;clear hb3 hown hv;go_wp2_with fail;exact bodyPost_ret (v:= .tuple #[v,.bool r.2]) (by simp[results,Tryz.results130,go_sem]) rfl ⟨v,rfl,HV,HO3,HB3⟩
 ·have hno:psOk l=false∨¬(1≤n∧n≤1000000000):=by
   cases h:psOk l
   ·exact .inl rfl
   ·exact .inr (fun hn=>hin ⟨h,hn⟩)
  have HAD:=hide (show addP l key dm df ds n=(l,false) by
   rcases hno with h|h
   ·exact addP_list h
   ·exact addP_n h)
  have HWN:=hide (fun p w1 (hb:Below w.heap.size w w1)=>l03With_not (some ⟨b,off,none⟩) cap l p n w1 hl hkm (fun h=>by cases h) (GR.At.below ha hb) hno);rw [unhide HAD];clear ha hin hno hk hkm hd1 hd2 hd3 HAD;generalize purseOf l key=p at *;obtain⟨pk,pm,pf,ps⟩:=p;cases hAm:decide (Inn n 0 1000000000)
  all_goals
   go_enter Tryz.func130,Tryz.ntmps130
   go_wp2_with fail
   refine HPO.mono ?_
   rintro e w1 ⟨rfl,hb1⟩
   have HB1:=hide hb1
   clear hb1 HPO
   go_wp2_with (go_at_call 47;refine(l01Amount _ _).mono ?_;rintro e w2 ⟨rfl,rfl⟩;rw [hAm])
   refine(HWN ⟨_,_,_,_⟩ _ (HB1.alloc HB1.size _)).mono ?_
   rintro e w3 ⟨v,rfl,hv,hown,hb3⟩
   have HB3:=hide ((HB1.alloc HB1.size _).trans (hb3.mono (by have:=HB1.size;simp;omega)))
   have HO3:=hide (own_lower (b':=w.heap.size) hown (by have:=HB1.size;simp;omega))
   have HV:=hide hv
   clear hb3 hown hv
   go_wp2_with fail
   exact bodyPost_ret (v:= .tuple #[v,.bool false]) (by simp[results,Tryz.results130,go_sem]) rfl ⟨v,rfl,HV,HO3,HB3⟩
theorem specMint (b off cap:Nat) (l:List Pu) (key:ByteArray) (n:Int) (w:World) (hl:l.length≤1048600) (hcap:l.length≤cap) (hk:∀p∈l,p.k.size≤1048576) (hkey:key.size≤1048576) (ha:PursesAt w (some ⟨b,off,none⟩) l):
 Calls Tryz.prog 58 #[.slice (some ⟨b,off,none⟩) l.length cap,.string key,.int .i64 n] w (GivesO w (addP l key (1) (1) (0) n)):=by
 have H:=hide (l03Add b off cap l key (1) (1) (0) n w hl hcap hk hkey (by omega) (by omega) (by omega) ha);clear ha hk;generalize addP l key (1) (1) (0) n=r at *;unfold GivesO at *;go_enter Tryz.func58,Tryz.ntmps58
 open Sb212 in exact Yb59
theorem specGain (b off cap:Nat) (l:List Pu) (key:ByteArray) (n:Int) (w:World) (hl:l.length≤1048600) (hcap:l.length≤cap) (hk:∀p∈l,p.k.size≤1048576) (hkey:key.size≤1048576) (ha:PursesAt w (some ⟨b,off,none⟩) l):
 Calls Tryz.prog 89 #[.slice (some ⟨b,off,none⟩) l.length cap,.string key,.int .i64 n] w (GivesO w (addP l key (0) (1) (0) n)):=by
 have H:=hide (l03Add b off cap l key (0) (1) (0) n w hl hcap hk hkey (by omega) (by omega) (by omega) ha);clear ha hk;generalize addP l key (0) (1) (0) n=r at *;unfold GivesO at *;go_enter Tryz.func89,Tryz.ntmps89
 open Sb211 in exact Yb59
theorem specPart (b off cap:Nat) (l:List Pu) (key:ByteArray) (n:Int) (w:World) (hl:l.length≤1048600) (hcap:l.length≤cap) (hk:∀p∈l,p.k.size≤1048576) (hkey:key.size≤1048576) (ha:PursesAt w (some ⟨b,off,none⟩) l):
 Calls Tryz.prog 137 #[.slice (some ⟨b,off,none⟩) l.length cap,.string key,.int .i64 n] w (GivesO w (addP l key (0) (-1) (0) n)):=by
 have H:=hide (l03Add b off cap l key (0) (-1) (0) n w hl hcap hk hkey (by omega) (by omega) (by omega) ha);clear ha hk;generalize addP l key (0) (-1) (0) n=r at *;unfold GivesO at *;go_enter Tryz.func137,Tryz.ntmps137
 open Sb210 in exact Yb59
theorem specSpend (b off cap:Nat) (l:List Pu) (key:ByteArray) (n:Int) (w:World) (hl:l.length≤1048600) (hcap:l.length≤cap) (hk:∀p∈l,p.k.size≤1048576) (hkey:key.size≤1048576) (ha:PursesAt w (some ⟨b,off,none⟩) l):
 Calls Tryz.prog 132 #[.slice (some ⟨b,off,none⟩) l.length cap,.string key,.int .i64 n] w (GivesO w (addP l key (0) (-1) (1) n)):=by
 have H:=hide (l03Add b off cap l key (0) (-1) (1) n w hl hcap hk hkey (by omega) (by omega) (by omega) ha);clear ha hk;generalize addP l key (0) (-1) (1) n=r at *;unfold GivesO at *;go_enter Tryz.func132,Tryz.ntmps132
 open Sb209 in exact Yb59
theorem specUnspend (b off cap:Nat) (l:List Pu) (key:ByteArray) (n:Int) (w:World) (hl:l.length≤1048600) (hcap:l.length≤cap) (hk:∀p∈l,p.k.size≤1048576) (hkey:key.size≤1048576) (ha:PursesAt w (some ⟨b,off,none⟩) l):
 Calls Tryz.prog 133 #[.slice (some ⟨b,off,none⟩) l.length cap,.string key,.int .i64 n] w (GivesO w (addP l key (0) (1) (-1) n)):=by
 have H:=hide (l03Add b off cap l key (0) (1) (-1) n w hl hcap hk hkey (by omega) (by omega) (by omega) ha);clear ha hk;generalize addP l key (0) (1) (-1) n=r at *;unfold GivesO at *;go_enter Tryz.func133,Tryz.ntmps133
 open Sb208 in exact Yb59
end Go.Proofs.YtppmcficiphgdaaGreatDoor
