/- Parts. -/
import Derived.Test.YtdlokncalhopoaaGreatPy17
import Derived.Test.YtdlokncalhopoaaGreatPy9
import Derived.Test.YtdlokncalhopoaaGreatPy2
import Derived.Test.YtdlokncalhopoaaGreatPy15
import Derived.Test.YtdlokncalhopoaaGreatPy1
import Derived.Deep.RegionLaw
import Derived.Deep.QuietTactic
import Derived.BigQuiet
import Derived.Maps.OwnSet
import Derived.Maps.OwnOps
import Derived.Shelf.Spec.SearchS
import Derived.Deep.RegionHeldLaw
import Derived.Deep.AppendLies
import Derived.Deep.DeepCutAuto
import Derived.Deep.CutBlock
namespace Go.Proofs.YtdlokncalhopoaaGreat
set_option maxHeartbeats 2000000
set_option maxRecDepth 100000
open Go.RowKit
open Mth
theorem own_lower {w:World} {b b':Nat} {e:TypeId} {sz:Nat} {v:Value} {n:Nat} {xs:List Value} (h:w.ownsRow b e sz v n xs) (hb:b'≤b):w.ownsRow b' e sz v n xs:=by
 refine⟨h.1,?_⟩
 rcases h.2 with h2|⟨g,cap,cur,hv,hg,hr⟩
 ·exact .inl h2
 ·exact .inr ⟨g,cap,cur,hv,Nat.le_trans hb hg,hr⟩
theorem l03With_not (a:Option Addr) (cap:Nat) (l:List Pu) (p:Pu) (n:Int) (w:World) (hl:l.length≤1048600) (hk:∀p∈l,p.k.size≤maxLen) (hn:a=none→l.length=0∧cap=0) (ha:PursesAt w a l) (hno:psOk l=false∨¬(1≤n∧n≤1000000000)):
 Calls Tryz.prog 62 #[.slice a l.length cap,puv p,.int .i64 n] w fun e w'=>∃v,e= .returned (.tuple #[v,.bool false])∧v≠ .slice none 0 0∧w'.ownsRow w.heap.size 80 4 v l.length (GR.flat encP l)∧Below w.heap.size w w':=by
 have HOK:=hide (fun w1 (h:PursesAt w1 a l)=>specPursesOk a cap l w1 hl hk h)
 have HCP:=hide (fun w1 (h:PursesAt w1 a l)=>l03Copy a cap l w1 hl hn h)
 have HA:=hide ha
 clear ha hk hn
 obtain⟨pk,pm,pf,ps⟩:=p
 go_enter Tryz.func62,Tryz.ntmps62
 go_wp2_with fail
 refine(unhide HOK _ (GR.At.below (unhide HA) (below_one' w _))).mono ?_
 rintro e w1 ⟨rfl,hb1⟩
 have HB1:=hide ((below_one' w _).trans (hb1.mono (below_one' w _).size))
 clear hb1
 cases hok:psOk l with
 |false=>
  go_wp2_with fail
  refine(unhide HCP _ (GR.At.below (unhide HA) (unhide HB1))).mono ?_
  rintro e w2 ⟨v,rfl,hnn,hrow,hb2⟩
  have HNN:=hide hnn
  have HR:=hide (own_lower hrow (unhide HB1).size)
  have HB2:=hide ((unhide HB1).trans (hb2.mono (unhide HB1).size))
  clear hrow hb2 hnn
  go_wp2_with fail
  refine bodyPost_ret (v:= .tuple #[v,.bool false]) (by simp[results,Tryz.results62,go_sem]) rfl ⟨v,rfl,unhide HNN,unhide HR,unhide HB2⟩
 |true=>
  have hn2:decide (Inn n 1 1000000000)=false:=decide_eq_false (by rcases hno with h|h;(rw [hok] at h;cases h);exact h)
  go_wp2_with fail
  refine(l01InB _ _ _ _).mono ?_
  rintro e w3 ⟨rfl,rfl⟩
  rw [hn2]
  go_wp2_with fail
  refine(unhide HCP _ (GR.At.below (unhide HA) (unhide HB1))).mono ?_
  rintro e w2 ⟨v,rfl,hnn,hrow,hb2⟩
  have HNN:=hide hnn
  have HR:=hide (own_lower hrow (unhide HB1).size)
  have HB2:=hide ((unhide HB1).trans (hb2.mono (unhide HB1).size))
  clear hrow hb2 hnn
  go_wp2_with fail
  refine bodyPost_ret (v:= .tuple #[v,.bool false]) (by simp[results,Tryz.results62,go_sem]) rfl ⟨v,rfl,unhide HNN,unhide HR,unhide HB2⟩
theorem while_at (f:Pu→Bool):∀(l:List Pu) (k:Nat),k≤l.length→(∀q∈l.take k,f q=true)→(∀h:k < l.length,f l[k]=false)→l.takeWhile f=l.take k∧l.dropWhile f=l.drop k:=by
 intro l
 induction l with
 |nil=>intro k hk _ _;simp
 |cons x r ih=>
  intro k hk h1 h2
  cases k with
  |zero=>
   have hx:f x=false:=h2 (by simp)
   simp[hx]
  |succ k=>
   have hx:f x=true:=h1 x (by simp)
   obtain⟨g1,g2⟩:=ih k (by simpa using hk) (fun q hq=>h1 q (by simp[hq])) (fun h=>h2 (by simpa using h))
   simp[hx,g1,g2]
open Go.RowKit Go.Maps
namespace Mth
def nothing (p:Pu):Bool:=p.m == 0&&p.f == 0&&p.s == 0
def upd (G:ByteArray→Pu) (p:Pu):ByteArray→Pu:=fun k=>if k=p.k then p else G k
end Mth
def puElem:Value→Option (DataW Unit×List MemPlace)
 | .agg ⟨[.string k,.int .i64 m,.int .i64 f,.int .i64 s]⟩=>some (.agg [.lit (.string k.data.toList),.lit (.int .i64 m),.lit (.int .i64 f),.lit (.int .i64 s)],[])
 |_=>none
def puDatum (p:Pu):DataW Unit:= .agg [.lit (.string p.k.data.toList),.lit (.int .i64 p.m),.lit (.int .i64 p.f),.lit (.int .i64 p.s)]
abbrev klit (k:ByteArray):Lit:= .string k.data.toList
theorem klit_ne {a b:ByteArray} (h:a≠b):klit a≠klit b:=fun e=>h (by
 injection e with e
 exact ByteArray.ext (Array.toList_inj.1 e))
def Agr (D:DataW Unit) (G:ByteArray→Pu):Prop:=∀k,(G k).k=k∧Maps.has D (klit k)= !nothing (G k)∧(nothing (G k)=false→∀z,D.atKey (klit k) z=puDatum (G k))
def MapIs (w:World) (mb n:Nat) (G:ByteArray→Pu):Prop:=∃D,w.ownsMap Tryz.prog 9 puElem mb n D∧Agr D G
theorem Agr.empty:Agr (.map []) (fun k=>⟨k,0,0,0⟩):=fun k=>⟨rfl,rfl,fun h=>by cases h⟩
theorem Agr.put {D:DataW Unit} {G:ByteArray→Pu} (h:Agr D G) (hD:Maps.IsMap D) (p:Pu) (hp:nothing p=false):Agr (D.put (klit p.k) (puDatum p)) (upd G p):=by
 intro k
 unfold upd
 by_cases e:k=p.k
 ·rw [if_pos e,e]
  exact⟨rfl,by rw [has_put_same hD (show WideAt.IsKeyLit (klit p.k) from trivial),hp];rfl,fun _ z=>atKey_put_same hD (show WideAt.IsKeyLit (klit p.k) from trivial) _ z⟩
 ·rw [if_neg e]
  obtain⟨h1,h2,h3⟩:=h k
  exact⟨h1,by rw [has_put_other (klit_ne e),h2],fun hn z=>by rw [atKey_put_other (klit_ne e)];exact h3 hn z⟩
theorem MapIs.made (w:World):MapIs (w.alloc (.map #[] 0)) w.heap.size 0 (fun k=>⟨k,0,0,0⟩):=⟨_,World.ownsMap_made w _ _ _,Agr.empty⟩
theorem MapIs.lt {w:World} {mb n:Nat} {G:ByteArray→Pu} (h:MapIs w mb n G):mb < w.heap.size:=h.choose_spec.1.lt
theorem MapIs.kept {w w':World} {mb n:Nat} {G:ByteArray→Pu} (h:MapIs w mb n G) (hb:w'.heap[mb]?=w.heap[mb]?):MapIs w' mb n G:=by
 obtain⟨D,⟨es,clock,h1,h2⟩,ha⟩:=h
 exact⟨D,⟨es,clock,hb.trans h1,h2⟩,ha⟩
namespace Mth
theorem toList_inj {a b:ByteArray} (h:a.toList=b.toList):a=b:=by
 rw [ByteArray.toList_eq,ByteArray.toList_eq] at h
 exact ByteArray.ext (Array.toList_inj.1 h)
theorem purseOf_k (l:List Pu) (k:ByteArray):(purseOf l k).k=k:=by
 unfold purseOf
 cases h:l.find? (fun p=>p.k.toList == k.toList) with
 |none=>rfl
 |some q=>
  have:=List.find?_some h
  exact toList_inj (by simpa using this)
def place (l:List Pu) (k:ByteArray):Nat:=(headP l k).length
theorem place_le (l:List Pu) (k:ByteArray):place l k≤l.length:=by
 have h:=congrArg List.length (head_from l k)
 rw [List.length_append] at h
 unfold place
 omega
theorem head_take (l:List Pu) (k:ByteArray):headP l k=l.take (place l k):=by
 have h:=head_from l k
 have:(headP l k++fromP l k).take (place l k)=headP l k:=by unfold place;simp
 rw [h] at this
 exact this.symm
theorem from_drop (l:List Pu) (k:ByteArray):fromP l k=l.drop (place l k):=by
 have h:=head_from l k
 have:(headP l k++fromP l k).drop (place l k)=fromP l k:=by unfold place;simp
 rw [h] at this
 exact this.symm
def found (l:List Pu) (k:ByteArray):Bool:=match fromP l k with
 |[]=>false
 |q::_=>q.k.toList == k.toList
end Mth
set_option maxHeartbeats 4000000
theorem At_drop {w:World} {b off:Nat} {l:List Pu} (h:PursesAt w (some ⟨b,off,none⟩) l) (k:Nat):PursesAt w (some ⟨b,off+k*4,none⟩) (l.drop k):=fun i hi=>by
 have hi':k+i < l.length:=by simp at hi;omega
 obtain⟨g,o,e,hg,hc⟩:=h (k+i) hi'
 injection e with e
 injection e with e1 e2
 subst e1 e2
 refine⟨b,off+k*4,rfl,hg,fun j hj=>?_⟩
 have:=hc j hj
 rw [show off+k*4+(i*4+j)=off+((k+i)*4+j) by omega,this]
 simp
theorem At_take {w:World} {a:Option Addr} {l:List Pu} (h:PursesAt w a l) (k:Nat):PursesAt w a (l.take k):=fun i hi=>by
 have hi':i < l.length:=by simp at hi;omega
 obtain⟨g,o,e,hg,hc⟩:=h i hi'
 refine⟨g,o,e,hg,fun j hj=>?_⟩
 rw [hc j hj]
 simp
theorem At_none {w:World} {a:Option Addr} {l:List Pu} (h:l=[]):PursesAt w a l:=fun i hi=>by rw [h] at hi;simp at hi
theorem Mth.tail_found {l:List Pu} {k:ByteArray} (h:found l k=true):place l k < l.length∧tailP l k=l.drop (place l k+1):=by
 have hpl:=place_le l k
 by_cases hlt:place l k < l.length
 ·refine⟨hlt,?_⟩
  unfold found at h
  unfold tailP
  rw [from_drop,List.drop_eq_getElem_cons hlt] at h ⊢
  dsimp only at h ⊢
  rw [if_pos h]
 ·unfold found at h
  rw [from_drop,List.drop_eq_nil_of_le (by omega)] at h
  cases h
theorem Mth.tail_not {l:List Pu} {k:ByteArray} (h:found l k=false):tailP l k=l.drop (place l k):=by
 unfold found at h
 unfold tailP
 rw [from_drop] at h ⊢
 cases hd:l.drop (place l k) with
 |nil=>rfl
 |cons q r=>
  rw [hd] at h
  dsimp only at h ⊢
  rw [h]
  rfl
theorem Mth.put_flat (l:List Pu) (p:Pu):GR.flat encP (l.take (place l p.k))++encP p++GR.flat encP (tailP l p.k)=GR.flat encP (putP l p)∧place l p.k+1+(tailP l p.k).length=(putP l p).length:=by
 have hpl:=place_le l p.k
 unfold putP
 rw [head_take]
 constructor
 ·rw [GR.flat_append,GR.flat_cons,List.append_assoc]
 ·simp
  omega
theorem Mth.put_mem' {l:List Pu} {p q:Pu} (h:q∈putP l p):q=p∨q∈l:=by
 unfold putP at h
 rcases List.mem_append.1 h with h|h
 ·exact .inr ((List.takeWhile_sublist _).mem h)
 ·rcases List.mem_cons.1 h with h|h
  ·exact .inl h
  ·exact .inr ((List.dropWhile_sublist _).mem (tail_sub l p.k q h))
theorem Mth.tail_len (l:List Pu) (k:ByteArray):(tailP l k).length≤l.length:=by
 cases h:found l k
 ·rw [tail_not h];simp
 ·rw [(tail_found h).2];simp
theorem step_append_own {P:Program} (w:World) {ops:Array Oper} {o:Oper} {a:Act} {K:Act→World→Prop} {Q:Exit→Act→World→Prop} {E:Prop} (hgd:o.guard=none) (s x:Operand) (t:TypeId)
 (ho:o.op= .call {callee:= .builtin .append,args:=#[s,x],argTypes:=#[t,t]})
 (base:Nat) (e:TypeId) (i:TypeInfo) (z:Value) (size bytes:Nat) (ht:P.underlying t=some (.slice e)) (hi:P.info? e=some i) (hz:i.zero=some z)
 (hsize:i.size=size) (hby:i.bytes=bytes) (hzs:z.cells.size=size) (hsz:0 < size)
 (v:Value) (n:Nat) (xs:List Value) (hs:a.eval s=v) (hown:w.ownsRow base e size v n xs)
 (ad:Addr) (m c:Nat) (news:List Value) (hx:a.eval x= .slice (some ad) m c) (hl:news.length=m*size) (hnews:∀j u,news[j]?=some u→w.cell? (ad.add j)=some u) (h1:∀u∈news,u.oneCell'=true)
 (h63:n+m≤maxLen) (hbytes:(n+m)*bytes≤140737488355328) (hbase:base≤w.heap.size)
 (h:∀v' w',w'.ownsRow base e size v' (n+m) (xs++news)→w.grownBy w' v.ownBlock→(v'= .slice none 0 0↔v= .slice none 0 0∧m=0)→K (a.put o.dst v') w'):
 if Region.wanted o (yielded ops a.tmps)=true then Oper.wp P o a w K Q else E:=by
 have hw:Region.wanted o (yielded ops a.tmps)=true:=by simp[Region.wanted,hgd]
 rw [if_pos hw]
 exact wp_append_own w s x t ho base e i z size bytes ht hi hz hsize hby hzs hsz v n xs hs hown ad m c news hx hl hnews h1 h63 hbytes hbase h
theorem grown_below' {w w':World} {B:Nat} {row:Option Nat} (hk:w.grownBy w' row) (hg:∀k,row=some k→B≤k) (hB:B≤w.heap.size):Below B w w':=⟨hk.os,hk.tape,hk.output,hk.size,fun k hl=>hk.block k (by omega) (fun e=>by have:=hg k e.symm;omega)⟩
theorem encP_one1 (p:Pu):∀u∈encP p,u.oneCell'=true:=by
 intro u hu
 simp only[encP,List.mem_cons,List.not_mem_nil,or_false] at hu
 rcases hu with rfl|rfl|rfl|rfl<;>rfl
theorem own_none (v:Value):v.ownBlock=none∨v.ownBlock≠none:=by
 cases v.ownBlock with
 |none=>exact .inl rfl
 |some k=>exact .inr (by intro e;cases e)
theorem drewN_two (w:World) (a b:Nat):(w.drewN a).drewN b=w.drewN (a+b):=by
 simp[World.drewN,Nat.add_assoc]
theorem Mth.place_at (l:List Pu) (key:ByteArray) (k:Nat) (hk:k≤l.length) (h1:∀q∈l.take k,Op.bytesLess q.k.toList key.toList=true) (h2:∀h:k < l.length,Op.bytesLess l[k].k.toList key.toList=false):place l key=k∧fromP l key=l.drop k:=by
 obtain⟨e1,e2⟩:=while_at (fun q=>Op.bytesLess q.k.toList key.toList) l k hk h1 h2
 unfold place headP fromP
 rw [e1,e2]
 exact⟨by simp;omega,rfl⟩
theorem l03With_in (b off:Nat) (cap:Nat) (l:List Pu) (p:Pu) (n:Int) (w:World) (hcap:l.length≤cap) (hk:∀p∈l,p.k.size≤maxLen) (hpk:p.k.size≤maxLen) (ha:PursesAt w (some ⟨b,off,none⟩) l) (hok:psOk l=true) (hn:1≤n∧n≤1000000000):
 Calls Tryz.prog 62 #[.slice (some ⟨b,off,none⟩) l.length cap,puv p,.int .i64 n] w fun e w'=>∃v,e= .returned (.tuple #[v,.bool (withP l p n).2])∧v≠ .slice none 0 0∧w'.ownsRow w.heap.size 80 4 v (withP l p n).1.length (GR.flat encP (withP l p n).1)∧Below w.heap.size w w':=by
 have hl:l.length≤20:=((psOk_iff l).1 hok).2.2
 have HOK:=hide (fun w1 (h:PursesAt w1 (some ⟨b,off,none⟩) l)=>specPursesOk (some ⟨b,off,none⟩) cap l w1 (by omega) hk h)
 have HA:=hide ha
 have hn2:decide (Inn n 1 1000000000)=true:=decide_eq_true hn
 have HW:=hide (show withP l p n=if psOk (putP l p) then(putP l p,true) else(l,false) by unfold withP;rw [hok,decide_eq_true hn];rfl)
 clear ha hn
 obtain⟨pk,pm,pf,ps⟩:=p
 go_enter Tryz.func62,Tryz.ntmps62
 go_wp2_with fail
 refine(unhide HOK _ (GR.At.below (unhide HA) (below_one' w _))).mono ?_
 rintro e w1 ⟨rfl,hb1⟩
 have HP1:=hide (show w1.heap[w.heap.size]?=some (.cells #[.string pk,.int .i64 pm,.int .i64 pf,.int .i64 ps] 80 (0,0)) by rw [hb1.block w.heap.size (by simp)];exact heap_alloc_new w _)
 have HB1:=hide ((below_one' w _).trans (hb1.mono (below_one' w _).size))
 have hbw:b < w1.heap.size∨l.length=0:=by
  rcases Nat.eq_zero_or_pos l.length with h|h
  ·exact .inr h
  ·obtain⟨g,o,e,hg,_⟩:=unhide HA 0 h
   injection e with e
   injection e with e1 e2
   subst e1
   exact .inl (Nat.lt_of_lt_of_le hg (unhide HB1).size)
 clear hb1
 rw [hok]
 clear hok
 go_wp2_with fail
 refine(l01InB _ _ _ _).mono ?_
 rintro e w3 ⟨rfl,rfl⟩
 rw [hn2]
 go_upto_block 0 with fail
 go_cut [8] (fun i wx=>i= .int .i64 (place l pk:Nat)∧∃q,wx=w1.drewN q)
 case first=>
  go_wp2_with fail
  go_loopw [8] (fun i wr=>∃k q:Nat,k≤l.length∧i= .int .i64 k∧(∀x∈l.take k,Op.bytesLess x.k.toList pk.toList=true)∧wr=w1.drewN q) (fun i _=>l.length - (intOf i).toNat)
  case atStart=>exact⟨0,0,Nat.zero_le _,rfl,fun x hx=>by simp at hx,rfl⟩
  case round=>
   obtain⟨k,q,hk1,rfl,hall,rfl⟩:=hrel
   have HALL:=hide hall
   clear hall
   have hp0:w1.cell? ⟨w.heap.size,0,none⟩=some (.string pk):=by rw [cell_of_row w1 _ _ _ _ (0,0) (unhide HP1)];rfl
   by_cases hlt:k < l.length
   ·obtain⟨g1,o1,e1,hg1,s0,s1,s2,s3⟩:=PursesAt.four (GR.At.below (unhide HA) (unhide HB1)) k hlt
    have e2:b=g1:=by injection e1 with e1;injection e1 with e1 e2
    have e3:off=o1:=by injection e1 with e1;injection e1 with e1 e2
    subst e2 e3
    have HT:=hide (List.take_succ_eq_append_getElem hlt)
    have HPL:=hide (fun h2=>(place_at l pk k (by omega) (unhide HALL) h2).1)
    clear s1 s2 s3 e1
    cases hbl:Op.bytesLess l[k].k.toList pk.toList with
    |true=>
     clear HPL
     generalize l[k]=pu at *
     obtain⟨qk,qm,qf,qs⟩:=pu
     dsimp only at s0 hbl
     go_wp2_with fail
     go_quiet (fail)
     go_wp2
     go_roundw
     case rel=>
      refine⟨k+1,_,by omega,by go_num,?_,rfl⟩
      intro x hx
      rw [unhide HT] at hx
      rcases List.mem_append.1 hx with hx|hx
      ·exact unhide HALL x hx
      ·rw [List.mem_singleton] at hx
       subst hx
       exact hbl
     case measure=>simp[intOf];omega
    |false=>
     have HPK:=hide (unhide HPL (fun _=>hbl))
     clear HPL HT
     generalize l[k]=pu at *
     obtain⟨qk,qm,qf,qs⟩:=pu
     dsimp only at s0 hbl
     go_wp2_with fail
     go_quiet (fail)
     go_wp2_with fail
     go_meet
     case rel=>exact⟨by rw [unhide HPK],_,drewN_two w1 _ _⟩
   ·have hke:k=l.length:=by omega
    subst hke
    have hnlt:decide ((l.length:Int) < (l.length:Int))=false:=by simp
    have HPK:=hide (place_at l pk l.length (Nat.le_refl _) (unhide HALL) (fun h=>absurd h (Nat.lt_irrefl _))).1
    go_wp2_with fail
    go_quiet (fail)
    go_wp2_with fail
    go_meet
    case rel=>exact⟨by rw [unhide HPK],_,drewN_two w1 _ _⟩
 case rest=>
  obtain⟨rfl,q,rfl⟩:=hcut
  have hpl:=place_le l pk
  obtain⟨ad,hAd,hAe⟩:∃ad:Addr,(if cap=place l pk then some (⟨b,off,none⟩:Addr) else some ⟨b,off+place l pk*4,none⟩)=some ad∧(place l pk < l.length→ad=⟨b,off+place l pk*4,none⟩):=by
   by_cases h:cap=place l pk
   ·rw [if_pos h]
    exact⟨_,rfl,fun h2=>by omega⟩
   ·rw [if_neg h]
    exact⟨_,rfl,fun _=>rfl⟩
  have hp0:w1.cell? ⟨w.heap.size,0,none⟩=some (.string pk):=by rw [cell_of_row w1 _ _ _ _ (0,0) (unhide HP1)];rfl
  go_upto_region 7 with fail
  go_cut [51] (fun r wx=>r= .bool (found l pk)∧∃q,wx=w1.drewN q)
  case first=>
   by_cases hlt:place l pk < l.length
   ·have hf:found l pk=(l[place l pk].k.toList == pk.toList):=by
     unfold found
     rw [from_drop,List.drop_eq_getElem_cons hlt]
    obtain⟨g1,o1,e1,hg1,s0,s1,s2,s3⟩:=PursesAt.four (GR.At.below (unhide HA) (unhide HB1)) (place l pk) hlt
    have e2:b=g1:=by injection e1 with e1;injection e1 with e1 e2
    have e3:off=o1:=by injection e1 with e1;injection e1 with e1 e2
    subst e2 e3
    have hae:=hAe hlt
    subst hae
    have HF:=hide hf
    have hpos:decide (0 < l.length - place l pk)=true:=decide_eq_true (by omega)
    have hps2:0 < l.length - place l pk:=by omega
    clear s1 s2 s3 e1 hf hAe hAd
    generalize l[place l pk]=pu at *
    obtain⟨qk,qm,qf,qs⟩:=pu
    dsimp only at s0 HF
    cases heq:qk.toList == pk.toList
    all_goals
     go_quiet (fail)
     go_wp2_with fail
     go_meet
     case rel=>exact⟨by rw [unhide HF,heq],_,drewN_two w1 _ _⟩
   ·have hf:found l pk=false:=by
     unfold found
     rw [from_drop,List.drop_eq_nil_of_le (by omega)]
    have HF:=hide hf
    have hpos:decide (0 < l.length - place l pk)=false:=decide_eq_false (by omega)
    have hps2:l.length - place l pk=0:=by omega
    clear hf
    go_quiet (fail)
    go_wp2_with fail
    go_meet
    case rel=>exact⟨by rw [unhide HF],_,drewN_two w1 _ _⟩
  case rest=>
   obtain⟨rfl,q2,rfl⟩:=hcut
   go_upto_if 51 with fail
   go_cut [9] (fun r wx=>∃(ad':Addr) (cc:Nat),r= .slice (some ad') (tailP l pk).length cc∧PursesAt w1 (some ad') (tailP l pk)∧∃q,wx=w1.drewN q)
   case first=>
    have HA1:=hide (GR.At.below (unhide HA) (unhide HB1))
    cases hf:found l pk
    ·have HTL:=hide (tail_not hf)
     have HAE:=hide hAe
     clear hAe hAd
     go_wp2_with fail
     go_meet
     case rel=>
      refine⟨ad,cap - place l pk,by rw [unhide HTL,List.length_drop],?_,_,rfl⟩
      rw [unhide HTL]
      by_cases hlt:place l pk < l.length
      ·rw [unhide HAE hlt]
       exact At_drop (unhide HA1) (place l pk)
      ·exact At_none (List.drop_eq_nil_of_le (by omega))
    ·obtain⟨hlt,htl⟩:=tail_found hf
     have HTL:=hide htl
     have hae:=hAe hlt
     subst hae
     clear htl hAe hAd
     obtain⟨ad2,hAd2,hAe2⟩:∃ad2:Addr,(if cap - place l pk=1 then some (⟨b,off+place l pk*4,none⟩:Addr) else some ⟨b,off+place l pk*4+4,none⟩)=some ad2∧(place l pk+1 < l.length→ad2=⟨b,off+place l pk*4+4,none⟩):=by
      by_cases h:cap - place l pk=1
      ·rw [if_pos h]
       exact⟨_,rfl,fun h2=>by omega⟩
      ·rw [if_neg h]
       exact⟨_,rfl,fun _=>rfl⟩
     have hone:1≤l.length - place l pk:=by omega
     go_wp2_with fail
     go_meet
     case rel=>
      refine⟨ad2,cap - place l pk - 1,by rw [unhide HTL,List.length_drop,Nat.sub_sub],?_,_,rfl⟩
      rw [unhide HTL]
      by_cases hlt2:place l pk+1 < l.length
      ·rw [hAe2 hlt2]
       have:=At_drop (unhide HA1) (place l pk+1)
       rwa [show off+(place l pk+1)*4=off+place l pk*4+4 by omega] at this
      ·exact At_none (List.drop_eq_nil_of_le (by omega))
   case rest=>
    obtain⟨ad',cc,rfl,hta,q3,rfl⟩:=hcut
    obtain⟨i0,hi,hz0,hz1,hz2⟩:=info_parts infoPu
    obtain⟨hpf,hpn⟩:=put_flat l ⟨pk,pm,pf,ps⟩
    have htl:(l.take (place l pk)).length=place l pk:=by simp;omega
    have hkt:∀q∈putP l ⟨pk,pm,pf,ps⟩,q.k.size≤maxLen:=fun q hq=>by
     rcases put_mem' hq with rfl|hq
     ·exact hpk
     ·exact hk q hq
    go_upto_region 9 with fail
    refine Fo.wp_at (fun V hV=>?_)
    have hVs:w.heap.size < V.heap.size:=by rw [hV];exact Fo.lt_of_blk (unhide HP1)
    have HBV:=hide (show Below w.heap.size w V by rw [hV];exact(unhide HB1).trans ⟨rfl,rfl,rfl,Nat.le_refl _,fun _ _=>rfl⟩)
    have hblk:V.heap[w.heap.size]?=some (.cells #[.string pk,.int .i64 pm,.int .i64 pf,.int .i64 ps] 80 (0,0)):=by rw [hV];exact unhide HP1
    have HTA:=hide (show PursesAt V (some ad') (tailP l pk) by rw [hV];exact hta)
    obtain⟨⟨c0,c1,c2,c3⟩,_⟩:=four_at hblk
    have HNW:=hide (fun X (hb:Below V.heap.size V X)=>PursesAt.news (GR.At.below (unhide HTA) hb))
    have HC0:=hide (fun X (hb:Below V.heap.size V X)=>l03Copy (some ⟨b,off,none⟩) cap (l.take (place l pk)) X (by omega) (fun h=>by cases h) (GR.At.below (At_take (GR.At.below (unhide HA) (unhide HBV)) _) hb))
    have HCA:=hide (fun X (hb:Below w.heap.size w X)=>l03Copy (some ⟨b,off,none⟩) cap l X (by omega) (fun h=>by cases h) (GR.At.below (unhide HA) hb))
    have HPF:=hide hpf
    have HPN:=hide hpn
    rw [htl] at HC0
    have hnw:w.heap.size≠V.heap.size:=by omega
    have hmw:V.heap.size≠w.heap.size:=by omega
    have htlen:(tailP l pk).length≤20:=by
     have h3:=tail_len l pk
     omega
    clear hV hblk hta hp0 HOK HP1 htl hAd hAe hpf hpn
    go_region_held_law (fun w'=>w'.cell? ⟨w.heap.size,0,none⟩=some (.string pk)∧w'.cell? ⟨w.heap.size,1,none⟩=some (.int .i64 pm)∧w'.cell? ⟨w.heap.size,2,none⟩=some (.int .i64 pf)∧w'.cell? ⟨w.heap.size,3,none⟩=some (.int .i64 ps)) (go_keep)
     (first
      |((go_at_call 64);(refine(unhide HC0 _ (by exact⟨rfl,rfl,rfl,by simp,fun k hk=>by first|rfl|exact Below.heap_alloc _ _ _ hk⟩)).mono ?_);(rintro e w4 ⟨vc,rfl,hv4,hown4,hb4⟩);(have hs4:=hb4.size);(try simp at hs4);(have HB4:=hide (show Below V.heap.size V w4 from Below.trans (b:=_) (by exact⟨rfl,rfl,rfl,by simp,fun k hk=>by first|rfl|exact Below.heap_alloc _ _ _ hk⟩) (hb4.mono (by simp))));(have HO4:=hide (own_lower (b':=V.heap.size) hown4 (by simp)));(first|(guard_hyp hs4:V.heap.size+1≤w4.heap.size;have HN4:=hide (Fo.one_block (show Below (V.alloc (.cells #[.string pk,.int .i64 pm,.int .i64 pf,.int .i64 ps] 80)).heap.size (V.alloc (.cells #[.string pk,.int .i64 pm,.int .i64 pf,.int .i64 ps] 80)) w4 from⟨hb4.os,hb4.tape,hb4.output,hb4.size,hb4.block⟩)).1)|skip);(have d0:=((unhide HB4).cell (p:=⟨w.heap.size,0,none⟩) hVs).trans c0);(have d1:=((unhide HB4).cell (p:=⟨w.heap.size,1,none⟩) hVs).trans c1);(have d2:=((unhide HB4).cell (p:=⟨w.heap.size,2,none⟩) hVs).trans c2);(have d3:=((unhide HB4).cell (p:=⟨w.heap.size,3,none⟩) hVs).trans c3);(have hn4:w.heap.size≠w4.heap.size:=by omega);(have hm4:w4.heap.size≠w.heap.size:=by omega);(clear hb4 hown4 hv4))
      |((guard_hyp hs4:V.heap.size+1≤w4.heap.size);(refine step_append_own _ rfl (.tmp 57) (.tmp 59) 25 rfl V.heap.size 80 i0 (.agg #[.string ByteArray.empty,.int .i64 0,.int .i64 0,.int .i64 0]) 4 40 Tryz.underlying25 hi hz0 hz1 hz2 rfl (by decide) vc (place l pk) (GR.flat encP (l.take (place l pk))) (by simp[Act.eval]) (unhide HO4) ⟨V.heap.size,0,none⟩ 1 1 (encP ⟨pk,pm,pf,ps⟩) (by simp[Act.eval]) rfl (World.news_of_block (unhide HN4)) (encP_one1 ⟨pk,pm,pf,ps⟩) (by unfold maxLen;omega) (by omega) (unhide HB4).size ?_);(intro v5 w5 hown5 hgr5 hnil5);(have HO5:=hide hown5);(have HV5:=hide (show v5≠ .slice none 0 0 by first|exact hnil5|exact fun h=>absurd (hnil5.1 h).2 (by decide)));(have HB5:=hide (show Below V.heap.size V w5 from(unhide HB4).trans (grown_below' hgr5 (fun k e=>((unhide HO4).lt k e).1) (unhide HB4).size)));(have e0:=((unhide HB5).cell (p:=⟨w.heap.size,0,none⟩) hVs).trans c0);(have e1:=((unhide HB5).cell (p:=⟨w.heap.size,1,none⟩) hVs).trans c1);(have e2:=((unhide HB5).cell (p:=⟨w.heap.size,2,none⟩) hVs).trans c2);(have e3:=((unhide HB5).cell (p:=⟨w.heap.size,3,none⟩) hVs).trans c3);(clear hown5 hgr5 hnil5))
      |((guard_hyp hs4:V.heap.size≤w4.heap.size);(refine step_append_own _ rfl (.tmp 57) (.tmp 59) 25 rfl V.heap.size 80 i0 (.agg #[.string ByteArray.empty,.int .i64 0,.int .i64 0,.int .i64 0]) 4 40 Tryz.underlying25 hi hz0 hz1 hz2 rfl (by decide) vc (place l pk) (GR.flat encP (l.take (place l pk))) (by simp[Act.eval]) ((unhide HO4).alloc _) ⟨w4.heap.size,0,none⟩ 1 1 (encP ⟨pk,pm,pf,ps⟩) (by simp[Act.eval]) rfl (World.news_of_block (heap_alloc_new w4 _)) (encP_one1 ⟨pk,pm,pf,ps⟩) (by unfold maxLen;omega) (by omega) (Nat.le_trans (unhide HB4).size (by simp)) ?_);(intro v5 w5 hown5 hgr5 hnil5);(have HO5:=hide hown5);(have HV5:=hide (show v5≠ .slice none 0 0 by first|exact hnil5|exact fun h=>absurd (hnil5.1 h).2 (by decide)));(have HB5:=hide (show Below V.heap.size V w5 from((unhide HB4).alloc (unhide HB4).size _).trans (grown_below' hgr5 (fun k e=>((unhide HO4).lt k e).1) (Nat.le_trans (unhide HB4).size (by simp)))));(have e0:=((unhide HB5).cell (p:=⟨w.heap.size,0,none⟩) hVs).trans c0);(have e1:=((unhide HB5).cell (p:=⟨w.heap.size,1,none⟩) hVs).trans c1);(have e2:=((unhide HB5).cell (p:=⟨w.heap.size,2,none⟩) hVs).trans c2);(have e3:=((unhide HB5).cell (p:=⟨w.heap.size,3,none⟩) hVs).trans c3);(clear hown5 hgr5 hnil5))
      |((refine step_append_own _ rfl (.tmp 60) (.tmp 61) 25 rfl V.heap.size 80 i0 (.agg #[.string ByteArray.empty,.int .i64 0,.int .i64 0,.int .i64 0]) 4 40 Tryz.underlying25 hi hz0 hz1 hz2 rfl (by decide) v5 (place l pk+1) (GR.flat encP (l.take (place l pk))++encP ⟨pk,pm,pf,ps⟩) (by simp[Act.eval,Act.put]) (unhide HO5) ad' (tailP l pk).length cc (GR.flat encP (tailP l pk)) (by simp[Act.eval,Act.put]) (GR.flat_length encP 4 encP_length _) (unhide HNW _ (unhide HB5)) (encP_one _) (by unfold maxLen;omega) (by omega) (unhide HB5).size ?_);(intro v6 w6 hown6 hgr6 hnil6);(have HB6:=hide (show Below V.heap.size V w6 from(unhide HB5).trans (grown_below' hgr6 (fun k e=>((unhide HO5).lt k e).1) (unhide HB5).size)));(have HV6:=hide (show v6≠ .slice none 0 0 by first|exact fun h=>(unhide HV5) (hnil6.1 h).1|exact fun h=>(unhide HV5) (hnil6 h).1));(rw [unhide HPF,unhide HPN] at hown6);(obtain⟨a6,cap6,rfl,hat6⟩:=GR.own_at encP_length hown6);(have HO6:=hide hown6);(have HT6:=hide hat6);(have f0:=((unhide HB6).cell (p:=⟨w.heap.size,0,none⟩) hVs).trans c0);(have f1:=((unhide HB6).cell (p:=⟨w.heap.size,1,none⟩) hVs).trans c1);(have f2:=((unhide HB6).cell (p:=⟨w.heap.size,2,none⟩) hVs).trans c2);(have f3:=((unhide HB6).cell (p:=⟨w.heap.size,3,none⟩) hVs).trans c3);(clear hown6 hgr6 hnil6 hat6))
      |fail)
    all_goals
     have hplen:(putP l ⟨pk,pm,pf,ps⟩).length≤1048600:=by have:=unhide HPN;omega
     have HBW6:=hide ((unhide HBV).trans ((unhide HB6).mono (by omega)))
     have HSO:=hide (specPursesOk a6 cap6 (putP l ⟨pk,pm,pf,ps⟩) w6 hplen hkt (unhide HT6))
     clear hplen d0 d1 d2 d3 e0 e1 e2 e3 f0 f1 f2 f3 c0 c1 c2 c3 HNW HC0
     go_wp2_with fail
     refine(unhide HSO).mono ?_
     rintro e w7 ⟨rfl,hb7⟩
     have HB7:=hide ((unhide HBW6).trans (hb7.mono (unhide HBW6).size))
     have HO7:=hide (own_lower (b':=w.heap.size) ((unhide HO6).kept (row:=none) ⟨hb7.os,hb7.tape,hb7.output,hb7.size,fun k hk _=>hb7.block k hk⟩ (own_none _)) (by omega))
     clear hb7 HSO
     cases hps:psOk (putP l ⟨pk,pm,pf,ps⟩)
     ·have HWF:=hide (show withP l ⟨pk,pm,pf,ps⟩ n=(l,false) by rw [unhide HW,hps];rfl)
      have HCX:=hide (unhide HCA _ (unhide HB7))
      clear hps HW HCA
      go_wp2_with fail
      refine(unhide HCX).mono ?_
      rintro e w8 ⟨v8,rfl,hv8,hown8,hb8⟩
      have HV8:=hide hv8
      have HO8:=hide (own_lower (b':=w.heap.size) hown8 (unhide HB7).size)
      have HB8:=hide ((unhide HB7).trans (hb8.mono (unhide HB7).size))
      clear hown8 hb8 hv8
      go_wp2_with fail
      rw [unhide HWF]
      exact bodyPost_ret (v:= .tuple #[v8,.bool false]) (by simp[results,Tryz.results62,go_sem]) rfl ⟨v8,rfl,unhide HV8,unhide HO8,unhide HB8⟩
     ·have HWF:=hide (show withP l ⟨pk,pm,pf,ps⟩ n=(putP l ⟨pk,pm,pf,ps⟩,true) by rw [unhide HW,hps];rfl)
      clear hps HW HCA
      go_wp2_with fail
      rw [unhide HWF]
      exact bodyPost_ret (v:= .tuple #[.slice a6 (putP l ⟨pk,pm,pf,ps⟩).length cap6,.bool true]) (by simp[results,Tryz.results62,go_sem]) rfl ⟨_,rfl,unhide HV6,unhide HO7,unhide HB7⟩
namespace Mth
def shiftP (p:Pu) (dm df ds n:Int):Pu:=⟨p.k,p.m+dm*n,p.f+df*n,p.s+ds*n⟩
end Mth
namespace Mth
def addP (l:List Pu) (key:ByteArray) (dm df ds n:Int):List Pu×Bool:=withP l (shiftP (purseOf l key) dm df ds n) n
theorem addP_list {l:List Pu} {key:ByteArray} {dm df ds n:Int} (h:psOk l=false):addP l key dm df ds n=(l,false):=by
 unfold addP withP
 rw [h]
 rfl
theorem addP_n {l:List Pu} {key:ByteArray} {dm df ds n:Int} (h:¬(1≤n∧n≤1000000000)):addP l key dm df ds n=(l,false):=by
 unfold addP withP
 rw [decide_eq_false h]
 simp
theorem unit_mul {d n:Int} (hd:d= -1∨d=0∨d=1) (hn:1≤n∧n≤1000000000): -1000000000≤d*n∧d*n≤1000000000:=by
 rcases hd with rfl|rfl|rfl<;>omega
end Mth
end Go.Proofs.YtdlokncalhopoaaGreat
