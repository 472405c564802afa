/-
  NdMarkS, NdMarkN, NdMath2, PuPut.
-/
import Derived.Test.YtppmcficiphgdaaGreatDoorQa8
import Derived.Test.YtppmcficiphgdaaGreatDoorQaZ3
import Derived.Test.YtppmcficiphgdaaGreatDoorQa4
import Derived.Test.YtppmcficiphgdaaGreatDoorQa2
import Derived.Sort.Walk0
namespace Go.Proofs.YtppmcficiphgdaaGreatDoor
set_option maxHeartbeats 2000000
set_option maxRecDepth 100000
open Go.RowKit
open Mth
def mSn (s:Nat) (x:Sn):Sn:=⟨(s:Int),(s:Int)+1,mks mkInt 1 (s+2) x.ids x.ids.length⟩
def eSn (s:Nat) (x:Sn):Nat:=s+2+x.ids.length
def mSeen:Nat→List Sn→List Sn
 |_,[]=>[]
 |s,x::r=>mSn s x::mSeen (eSn s x) r
def eSeen:Nat→List Sn→Nat
 |s,[]=>s
 |s,x::r=>eSeen (eSn s x) r
theorem mSeen_snoc (s:Nat) (l:List Sn) (x:Sn):mSeen s (l++[x])=mSeen s l++[mSn (eSeen s l) x]:=by
 induction l generalizing s with
 |nil=>rfl
 |cons y l ih=>simp[mSeen,eSeen,ih]
theorem eSeen_snoc (s:Nat) (l:List Sn) (x:Sn):eSeen s (l++[x])=eSn (eSeen s l) x:=by
 induction l generalizing s with
 |nil=>rfl
 |cons y l ih=>simp[eSeen,ih]
theorem mSeen_length (s:Nat) (l:List Sn):(mSeen s l).length=l.length:=by
 induction l generalizing s with
 |nil=>rfl
 |cons y l ih=>simp[mSeen,ih]
theorem mSn_ids (s:Nat) (x:Sn):(mSn s x).ids.length=x.ids.length:=mks_length mkInt 1 (s+2) x.ids x.ids.length (Nat.le_refl _)
theorem eSeen_le (s b:Nat) (l:List Sn) (h:∀x∈l,x.ids.length≤b):s≤eSeen s l∧eSeen s l≤s+l.length*(b+2):=by
 induction l generalizing s with
 |nil=>simp[eSeen]
 |cons y l ih=>
  have h1:=h y (by simp)
  have h2:=ih (eSn s y) (fun x hx=>h x (List.mem_cons_of_mem _ hx))
  simp only[eSeen,List.length_cons,Nat.add_mul,Nat.one_mul]
  unfold eSn at *
  omega
def mSk (s:Nat) (l:List Sn) (k:Nat):List Sn:=mSeen s (l.take k)++l.drop k
theorem mSk_length (s:Nat) (l:List Sn) (k:Nat) (hk:k≤l.length):(mSk s l k).length=l.length:=by simp[mSk,mSeen_length];omega
theorem mSk_zero (s:Nat) (l:List Sn):mSk s l 0=l:=rfl
theorem mSk_all (s:Nat) (l:List Sn):mSk s l l.length=mSeen s l:=by simp[mSk]
theorem mSk_at (s:Nat) (l:List Sn) (k:Nat) (hk:k < l.length):(mSk s l k)[k]'(by rw [mSk_length s l k (by omega)];exact hk)=l[k]:=by
 unfold mSk;have h1:(mSeen s (l.take k)).length=k:=by rw [mSeen_length];simp;omega
 rw [List.getElem_append_right (by omega)];simp[h1]
theorem mSk_set (s:Nat) (l:List Sn) (k:Nat) (hk:k < l.length):(mSk s l k).set k (mSn (eSeen s (l.take k)) l[k])=mSk s l (k+1):=by
 have h1:(mSeen s (l.take k)).length=k:=by rw [mSeen_length];simp;omega
 have e:l.drop k=l[k]::l.drop (k+1):=List.drop_eq_getElem_cons hk;unfold mSk;rw [e,List.set_append_right _ _ (by omega),h1,Nat.sub_self,List.set_cons_zero,List.take_succ_eq_append_getElem hk,mSeen_snoc,List.append_assoc];rfl
theorem fpI_congr {I:Nat→Nat} {l l':List Sn} (hl:l.length=l'.length) (h:∀i (h1:i < l.length) (h2:i < l'.length),l[i].ids.length=l'[i].ids.length):fpI I l=fpI I l':=by
 unfold fpI;rw [hl]
 have:∀i∈List.range l'.length,fp (I i) (l.getD i default).ids=fp (I i) (l'.getD i default).ids:=fun i hi=>by
  have h2:=List.mem_range.1 hi
  have h1:i < l.length:=by omega
  apply fp_len
  rw [List.getD_eq_getElem?_getD,List.getElem?_eq_getElem h1,List.getD_eq_getElem?_getD,List.getElem?_eq_getElem h2]
  exact h i h1 h2
 rw [List.flatMap_def,List.flatMap_def,List.map_congr_left this]
theorem SeenW.put {w:World} {a:Option Addr} {g:Nat} {I:Nat→Nat} {l:List Sn} (h:SeenW w a g I l) (k:Nat) (hk:k < l.length) (f lo:Int) (hne:∀x∈fpI I l,x≠g):
 SeenW ((w.setCell ⟨g,k*3,none⟩ (.int .i64 f)).setCell ⟨g,k*3+1,none⟩ (.int .i64 lo)) a g I (l.set k ⟨f,lo,l[k].ids⟩):=by
 obtain⟨T,hT,hl,hr⟩:=h;obtain⟨b,c,ht,hi2⟩:=hr k hk;have hkT:k < T.length:=by omega
 have htk:T[k]=⟨l[k].f,l[k].l,.slice b l[k].ids.length c⟩:=by
  rw [List.getElem?_eq_getElem hkT] at ht;exact Option.some.inj ht
 have hC:=((GR.W.toC encR3_length (by omega) hT).set (k*3) (.int .i64 f)).set (k*3+1) (.int .i64 lo);have hf:=GR.flat_set encR3 3 encR3_length T k ⟨f,lo,.slice b l[k].ids.length c⟩ hkT;have h3:(((GR.flat encR3 T).set (k*3) (.int .i64 f)).set (k*3+1) (.int .i64 lo)).set (k*3+2) (.slice b l[k].ids.length c)=GR.flat encR3 (T.set k ⟨f,lo,.slice b l[k].ids.length c⟩):=hf;have hat:=GR.flat_at encR3 3 encR3_length T k hkT 2 (by omega);rw [htk] at hat
 have h4:((GR.flat encR3 T).set (k*3) (.int .i64 f)).set (k*3+1) (.int .i64 lo)=GR.flat encR3 (T.set k ⟨f,lo,.slice b l[k].ids.length c⟩):=by
  rw [←h3];apply List.ext_getElem?
  intro j;by_cases hj:j=k*3+2
  ·subst hj;have hlt:k*3+2 < (GR.flat encR3 T).length:=by rw [GR.flat_length encR3 3 encR3_length];omega
   rw [List.getElem?_set_self (by simpa using hlt),List.getElem?_set_ne (by omega),List.getElem?_set_ne (by omega),hat];rfl
  ·rw [List.getElem?_set_ne (i:=k*3+2) (by omega)]
 rw [h4] at hC;have hK:KeepsL [g] w ((w.setCell ⟨g,k*3,none⟩ (.int .i64 f)).setCell ⟨g,k*3+1,none⟩ (.int .i64 lo)):=(KeepsL.set _).trans (KeepsL.set _);refine⟨T.set k ⟨f,lo,.slice b l[k].ids.length c⟩,GR.C.toW encR3_length (by omega) hC,by simpa using hl,fun i hi=>?_⟩;have hi':i < l.length:=by simpa using hi
 by_cases hik:i=k
 ·subst hik;refine⟨b,c,?_,?_⟩
  ·rw [List.getElem?_set_self hkT];simp
  ·rw [List.getElem_set_self];exact hi2.keeps hK (fun x hx=>by simpa using hne x (fpI_mem hi' x hx))
 ·obtain⟨b',c',ht',hi3⟩:=hr i hi';refine⟨b',c',?_,?_⟩
  ·rw [List.getElem?_set_ne (by omega),ht',List.getElem_set_ne (by omega)]
  ·rw [List.getElem_set_ne (by omega)];exact hi3.keeps hK (fun x hx=>by simpa using hne x (fpI_mem hi' x hx))
theorem fpI_diff {I:Nat→Nat} {l:List Sn} (hnd:(fpI I l).Nodup) {i k:Nat} (hi:i < l.length) (hk:k < l.length) (hik:i≠k) (h1:0 < l[i].ids.length) (h2:0 < l[k].ids.length):I i≠I k:=by
 intro he;have hd:∀j (hj:j < l.length),l.getD j default=l[j]:=fun j hj=>by rw [List.getD_eq_getElem?_getD,List.getElem?_eq_getElem hj];rfl
 have key:∀a b,a < b→b < l.length→0 < (l.getD a default).ids.length→0 < (l.getD b default).ids.length→I a≠I b:=by
  intro a b hab hb ha1 hb1 hI;unfold fpI at hnd
  have e1:List.range l.length=List.range b++(List.range (l.length - b)).map (b+·):=by
   rw [←List.range_add];congr 1
   omega
  rw [e1,List.flatMap_append,List.nodup_append] at hnd;refine hnd.2.2 (I a) ?_ (I b) ?_ hI
  ·rw [List.mem_flatMap];exact⟨a,List.mem_range.2 hab,fp_mem ha1⟩
  ·rw [List.mem_flatMap];exact⟨b,List.mem_map.2 ⟨0,List.mem_range.2 (by omega),by simp⟩,fp_mem hb1⟩
 rcases Nat.lt_or_gt_of_ne hik with h|h
 ·exact key i k h hk (by rw [hd i hi];exact h1) (by rw [hd k hk];exact h2) he
 ·exact key k i h hi (by rw [hd k hk];exact h2) (by rw [hd i hi];exact h1) he.symm
theorem SeenW.ids {w w':World} {a:Option Addr} {g:Nat} {I:Nat→Nat} {l:List Sn} (h:SeenW w a g I l) (k:Nat) (hk:k < l.length) (b:Option Addr) (c:Nat) (ids:List Int) (hb:w.cell? ⟨g,k*3+2,none⟩=some (.slice b l[k].ids.length c)) (hlen:ids.length=l[k].ids.length) (hw:GR.W encNum 1 w' b (I k) ids) (hK:KeepsL (fp (I k) l[k].ids) w w')
 (hne:∀x∈fpI I l,x≠g) (hnd:(fpI I l).Nodup):SeenW w' a g I (l.set k ⟨l[k].f,l[k].l,ids⟩):=by
 obtain⟨T,hT,hl,hr⟩:=h;have hkT:k < T.length:=by omega
 have hfpk:∀x∈fp (I k) l[k].ids,x∈fpI I l:=fpI_mem hk
 have hT':GR.W encR3 3 w' a g T:=hT.keeps hK (fun x hx hx2=>by
  rw [(of_fp hx).1] at hx2
  exact hne _ (hfpk _ hx2) rfl)
 refine⟨T,hT',by simpa using hl,fun i hi=>?_⟩;have hi':i < l.length:=by simpa using hi
 obtain⟨b',c',ht',hi3⟩:=hr i hi';by_cases hik:i=k
 ·subst hik;obtain⟨_,_,hc⟩:=hT i hkT;have h2:=(hc 2 (by omega)).1;rw [List.getElem?_eq_getElem hkT] at ht';rw [Option.some.inj ht'] at h2;have h2':w.cell? ⟨g,i*3+2,none⟩=some (.slice b' l[i].ids.length c'):=h2;rw [hb] at h2';injection h2' with h2'
  injection h2' with e1 e2 e3
  subst e1 e3;refine⟨b,c,?_,?_⟩
  ·rw [List.getElem?_eq_getElem hkT,Option.some.inj ht',List.getElem_set_self];simp[hlen]
  ·rw [List.getElem_set_self];exact hw
 ·refine⟨b',c',?_,?_⟩
  ·rw [ht',List.getElem_set_ne (by omega)]
  ·rw [List.getElem_set_ne (by omega)];refine hi3.keeps hK (fun x hx hx2=>?_);have e1:=(of_fp hx).1;have e2:=(of_fp hx2).1;have hIk:I i=I k:=by rw [←e1,←e2]
   exact fpI_diff hnd hi' hk hik (of_fp hx).2 (of_fp hx2).2 hIk
theorem markIntZ (a:Option Addr) (g c s:Nat) (z:Int) (l:List Int) (w:World) (hz:z=(s:Int)) (hs0:0 < s) (hs1:s≤4000000000000) (hl:l.length≤1048600) (ha:GR.W encNum 1 w a g l):
 Calls Tryz.prog 76 #[.slice a l.length c,.int .i64 z] w fun e w'=>e= .returned (.int .i64 (s+(l.length:Int)))∧GR.W encNum 1 w' a g (mks mkInt 1 s l l.length)∧KeepsL (fp g l) w w':=by
 subst hz;exact markIntG a g c s l w hs0 hs1 hl ha
theorem heldIntZ (a:Option Addr) (g c n s:Nat) (z:Int) (l:List Int) (w:World) (hz:z=(s:Int)) (hn:n=l.length) (hs0:0 < s) (hs1:s≤4000000000000) (hl:l.length≤1048600) (ha:GR.W encNum 1 w a g (mks mkInt 1 s l l.length)):
 Calls Tryz.prog 82 #[.slice a n c,.int .i64 z] w fun e w'=>e= .returned (.int .i64 (s+(l.length:Int)))∧Below w.heap.size w w':=by
 subst hz;exact heldIntG a g c n s l w hn hs0 hs1 hl ha
theorem mSeen_at (s:Nat) (l:List Sn) (k:Nat) (hk:k < l.length):(mSeen s l)[k]'(by rw [mSeen_length];exact hk)=mSn (eSeen s (l.take k)) l[k]:=by
 induction l generalizing s k with
 |nil=>simp at hk
 |cons y l ih=>
  cases k with
  |zero=>rfl
  |succ k=>
   simp only[mSeen,List.getElem_cons_succ,List.take_succ_cons,eSeen]
   exact ih (eSn s y) k (by simpa using hk)
theorem mSk_len (s:Nat) (l:List Sn) (k:Nat) (hk:k≤l.length):∀i (h1:i < (mSk s l k).length) (h2:i < l.length),((mSk s l k)[i]).ids.length=(l[i]).ids.length:=by
 induction k with
 |zero=>intro i h1 h2;rfl
 |succ k ih=>
  intro i h1 h2
  have hk':k < l.length:=by omega
  have e:=mSk_set s l k hk'
  have h3:i < ((mSk s l k).set k (mSn (eSeen s (l.take k)) l[k])).length:=by rw [e];exact h1
  have h4:(mSk s l (k+1))[i]=((mSk s l k).set k (mSn (eSeen s (l.take k)) l[k]))[i]'h3:=by simp only[e]
  rw [h4]
  by_cases hik:i=k
  ·subst hik;rw [List.getElem_set_self,mSn_ids]
  ·rw [List.getElem_set_ne (by omega)];exact ih (by omega) i (by simpa using h3) h2
theorem SeenW.three {w:World} {a:Option Addr} {g:Nat} {I:Nat→Nat} {l:List Sn} (h:SeenW w a g I l) (i:Nat) (hi:i < l.length):∃b c,a=some ⟨g,0,none⟩∧g < w.heap.size∧(w.cell? ⟨g,i*3,none⟩=some (.int .i64 l[i].f)∧w.cell? ⟨g,i*3+1,none⟩=some (.int .i64 l[i].l)∧w.cell? ⟨g,i*3+2,none⟩=some (.slice b l[i].ids.length c))∧(w.frozen? ⟨g,i*3,none⟩=false∧w.frozen? ⟨g,i*3+1,none⟩=false)∧GR.W encNum 1 w b (I i) l[i].ids:=by
 obtain⟨T,hT,hl,hr⟩:=h;obtain⟨b,c,ht,hi2⟩:=hr i hi;have hkT:i < T.length:=by omega
 obtain⟨e,hg,hc⟩:=hT i hkT;rw [List.getElem?_eq_getElem hkT] at ht;rw [Option.some.inj ht] at hc;exact⟨b,c,e,hg,⟨by simpa using(hc 0 (by omega)).1,by simpa using(hc 1 (by omega)).1,by simpa using(hc 2 (by omega)).1⟩,⟨by simpa using(hc 0 (by omega)).2,(hc 1 (by omega)).2⟩,hi2⟩
theorem markSeenG (a:Option Addr) (g c s:Nat) (I:Nat→Nat) (l:List Sn) (w:World) (hs0:0 < s) (hs1:s≤100000000) (hl:l.length≤1048600) (hl2:∀x∈l,x.ids.length≤1048600) (hnd:(fp g l++fpI I l).Nodup) (ha:SeenW w a g I l):
 Calls Tryz.prog 79 #[.slice a l.length c,.int .i64 s] w fun e w'=>e= .returned (.int .i64 (eSeen s l:Nat))∧SeenW w' a g I (mSeen s l)∧KeepsL (fp g l++fpI I l) w w':=by
 have HA:=hide ha;have HL2:=hide hl2;have HND:=hide (List.nodup_append.1 hnd);clear ha hl2 hnd;go_enter Tryz.func79,Tryz.ntmps79
 go_wp2_with fail;go_loopw [1,5] (fun kk i wr=>∃k m:Nat,k≤l.length∧i= .int .i64 k∧kk= .int .i64 m∧m=eSeen s (l.take k)∧SeenW wr a g I (mSk s l k)∧KeepsL (fp g l++fpI I l) w wr) (fun _ i _=>l.length - (intOf i).toNat)
 case atStart=>exact⟨0,s,Nat.zero_le _,rfl,rfl,rfl,by rw [mSk_zero];exact HA,KeepsL.refl _ _⟩
 case round=>
  open Sa150 in exact Ya35
theorem heldSeenG (a:Option Addr) (g c n s:Nat) (I:Nat→Nat) (l:List Sn) (w:World) (hn:n=l.length) (hs0:0 < s) (hs1:s≤100000000) (hl:l.length≤1048600) (hl2:∀x∈l,x.ids.length≤1048600) (ha:SeenW w a g I (mSeen s l)):
 Calls Tryz.prog 85 #[.slice a n c,.int .i64 s] w fun e w'=>e= .returned (.int .i64 (eSeen s l:Nat))∧Below w.heap.size w w':=by
 have HA:=hide ha;have HL2:=hide hl2;clear ha hl2;subst hn;go_enter Tryz.func85,Tryz.ntmps85
 go_wp2_with fail;go_loopw [1,5] (fun kk i wr=>∃k m:Nat,k≤l.length∧i= .int .i64 k∧kk= .int .i64 m∧m=eSeen s (l.take k)∧Below w.heap.size w wr) (fun _ i _=>l.length - (intOf i).toNat)
 case atStart=>exact Za55
 case round=>
  open Sa268 in exact Ya71
set_option maxHeartbeats 2000000
def sP (n:Nd):Nat:=1+n.kids.length
def sO (n:Nd):Nat:=sP n+4*n.pu.length
def sS (n:Nd):Nat:=sO n+4*n.out.length
def sR (n:Nd):Nat:=eSeen (sS n) n.seen
def eNode (n:Nd):Nat:=sR n+4*n.reqs.length
def mNode (n:Nd):Nd:=⟨n.id,n.par,mks mkInt 1 1 n.kids n.kids.length,n.next,mks mkPurse 4 (sP n) n.pu n.pu.length,mks mkSent 4 (sO n) n.out n.out.length,mSeen (sS n) n.seen,n.old,mks mkReq 4 (sR n) n.reqs n.reqs.length⟩
theorem node_bds {n:Nd} (hz:NdSz n 1048600):0 < sP n∧sP n≤10000000∧0 < sO n∧sO n≤50000000∧0 < sS n∧sS n≤100000000∧0 < sR n∧sR n≤3000000000000:=by
 have h:=eSeen_le (sS n) 1048600 n.seen hz.sk;have h1:=hz.k;have h2:=hz.p;have h3:=hz.o;have h4:=hz.s;unfold sR;generalize eSeen (sS n) n.seen=z at *;unfold sS sO sP at *;omega
theorem markPurseZ (a:Option Addr) (g c s:Nat) (z:Int) (l:List Pu) (w:World) (hz:z=(s:Int)) (hs0:0 < s) (hs1:s≤4000000000000) (hl:l.length≤1048600) (ha:GR.W encP 4 w a g l):
 Calls Tryz.prog 77 #[.slice a l.length c,.int .i64 z] w fun e w'=>e= .returned (.int .i64 (s+4*(l.length:Int)))∧GR.W encP 4 w' a g (mks mkPurse 4 s l l.length)∧KeepsL (fp g l) w w':=by
 subst hz;exact markPurseG a g c s l w hs0 hs1 hl ha
theorem markSentZ (a:Option Addr) (g c s:Nat) (z:Int) (l:List Snt) (w:World) (hz:z=(s:Int)) (hs0:0 < s) (hs1:s≤4000000000000) (hl:l.length≤1048600) (ha:GR.W encSnt 4 w a g l):
 Calls Tryz.prog 78 #[.slice a l.length c,.int .i64 z] w fun e w'=>e= .returned (.int .i64 (s+4*(l.length:Int)))∧GR.W encSnt 4 w' a g (mks mkSent 4 s l l.length)∧KeepsL (fp g l) w w':=by
 subst hz;exact markSentG a g c s l w hs0 hs1 hl ha
theorem markReqZ (a:Option Addr) (g c s:Nat) (z:Int) (l:List Rq) (w:World) (hz:z=(s:Int)) (hs0:0 < s) (hs1:s≤4000000000000) (hl:l.length≤1048600) (ha:GR.W encRq 4 w a g l):
 Calls Tryz.prog 80 #[.slice a l.length c,.int .i64 z] w fun e w'=>e= .returned (.int .i64 (s+4*(l.length:Int)))∧GR.W encRq 4 w' a g (mks mkReq 4 s l l.length)∧KeepsL (fp g l) w w':=by
 subst hz;exact markReqG a g c s l w hs0 hs1 hl ha
theorem markSeenZ (a:Option Addr) (g c s:Nat) (z:Int) (I:Nat→Nat) (l:List Sn) (w:World) (hz:z=(s:Int)) (hs0:0 < s) (hs1:s≤100000000) (hl:l.length≤1048600) (hl2:∀x∈l,x.ids.length≤1048600) (hnd:(fp g l++fpI I l).Nodup) (ha:SeenW w a g I l):
 Calls Tryz.prog 79 #[.slice a l.length c,.int .i64 z] w fun e w'=>e= .returned (.int .i64 (eSeen s l:Nat))∧SeenW w' a g I (mSeen s l)∧KeepsL (fp g l++fpI I l) w w':=by
 subst hz;exact markSeenG a g c s I l w hs0 hs1 hl hl2 hnd ha
theorem heldPurseZ (a:Option Addr) (g c n s:Nat) (z:Int) (l:List Pu) (w:World) (hz:z=(s:Int)) (hn:n=l.length) (hs0:0 < s) (hs1:s≤4000000000000) (hl:l.length≤1048600) (ha:GR.W encP 4 w a g (mks mkPurse 4 s l l.length)):
 Calls Tryz.prog 83 #[.slice a n c,.int .i64 z] w fun e w'=>e= .returned (.int .i64 (s+4*(l.length:Int)))∧Below w.heap.size w w':=by
 subst hz;exact heldPurseG a g c n s l w hn hs0 hs1 hl ha
theorem heldSentZ (a:Option Addr) (g c n s:Nat) (z:Int) (l:List Snt) (w:World) (hz:z=(s:Int)) (hn:n=l.length) (hs0:0 < s) (hs1:s≤4000000000000) (hl:l.length≤1048600) (ha:GR.W encSnt 4 w a g (mks mkSent 4 s l l.length)):
 Calls Tryz.prog 84 #[.slice a n c,.int .i64 z] w fun e w'=>e= .returned (.int .i64 (s+4*(l.length:Int)))∧Below w.heap.size w w':=by
 subst hz;exact heldSentG a g c n s l w hn hs0 hs1 hl ha
theorem heldReqZ (a:Option Addr) (g c n s:Nat) (z:Int) (l:List Rq) (w:World) (hz:z=(s:Int)) (hn:n=l.length) (hs0:0 < s) (hs1:s≤4000000000000) (hl:l.length≤1048600) (ha:GR.W encRq 4 w a g (mks mkReq 4 s l l.length)):
 Calls Tryz.prog 86 #[.slice a n c,.int .i64 z] w fun e w'=>e= .returned (.int .i64 (s+4*(l.length:Int)))∧Below w.heap.size w w':=by
 subst hz;exact heldReqG a g c n s l w hn hs0 hs1 hl ha
theorem heldSeenZ (a:Option Addr) (g c n s:Nat) (z:Int) (I:Nat→Nat) (l:List Sn) (w:World) (hz:z=(s:Int)) (hn:n=l.length) (hs0:0 < s) (hs1:s≤100000000) (hl:l.length≤1048600) (hl2:∀x∈l,x.ids.length≤1048600) (ha:SeenW w a g I (mSeen s l)):
 Calls Tryz.prog 85 #[.slice a n c,.int .i64 z] w fun e w'=>e= .returned (.int .i64 (eSeen s l:Nat))∧Below w.heap.size w w':=by
 subst hz;exact heldSeenG a g c n s I l w hn hs0 hs1 hl hl2 ha
theorem fp_mks {α:Type} {mk:Nat→α} {c s g x:Nat} {l:List α} (h:x∈fp g (mks mk c s l l.length)):x∈fp g l:=by
 rw [fp_len (mks_length mk c s l l.length (Nat.le_refl _))] at h;exact h
theorem fp_mS {s g x:Nat} {l:List Sn} (h:x∈fp g (mSeen s l)):x∈fp g l:=by
 rw [fp_len (mSeen_length s l)] at h;exact h
theorem fpI_mS {I:Nat→Nat} {s x:Nat} {l:List Sn} (h:x∈fpI I (mSeen s l)):x∈fpI I l:=by
 rw [fpI_congr (mSeen_length s l) (fun i h1 h2=>by rw [mSeen_at s l i h2,mSn_ids])] at h;exact h
theorem SeenW.below {w w':World} {a:Option Addr} {g:Nat} {I:Nat→Nat} {l:List Sn} (h:SeenW w a g I l) (hb:Below w.heap.size w w'):SeenW w' a g I l:=h.keeps (F:=[]) (KeepsL.of_below hb) (fun _ _=>by simp) (fun _ _=>by simp)
theorem W_lt {α:Type} {enc:α→List Value} {sz:Nat} {w:World} {a:Option Addr} {g:Nat} {l:List α} (h:GR.W enc sz w a g l):∀x∈fp g l,x < w.heap.size:=fun x hx=>by
 rw [(of_fp hx).1];exact(h 0 (of_fp hx).2).2.1
theorem SeenW_lt {w:World} {a:Option Addr} {g:Nat} {I:Nat→Nat} {l:List Sn} (h:SeenW w a g I l):∀x∈fp g l++fpI I l,x < w.heap.size:=fun x hx=>by
 obtain⟨T,hT,hl,hr⟩:=h;rcases List.mem_append.1 hx with hx|hx
 ·rw [(of_fp hx).1];exact(hT 0 (by have:=(of_fp hx).2;omega)).2.1
 ·obtain⟨i,hi,rfl,hp⟩:=of_fpI hx;obtain⟨b,c,_,hi2⟩:=hr i hi;exact(hi2 0 hp).2.1
theorem markNodeG (n:Nd) (A:Ads) (G:Blks) (w:World) (hz:NdSz n 1048600) (hnd:(G.all n).Nodup) (ha:NodeW w A G n):
 Calls Tryz.prog 24 #[ndv n A,.int .i64 1] w fun e w'=>e= .returned (.int .i64 (eNode n:Nat))∧NodeW w' A G (mNode n)∧KeepsL (G.all n) w w':=by
 have hb0:=below_one w (.cells (ndc n A) 30);open Sa294 in exact Ya81
theorem heldNodeG (n:Nd) (A:Ads) (G:Blks) (w:World) (hz:NdSz n 1048600) (ha:NodeW w A G (mNode n)):
 Calls Tryz.prog 26 #[ndv n A,.int .i64 1] w fun e w'=>e= .returned (.int .i64 (eNode n:Nat))∧Below w.heap.size w w':=by
 open Sa293 in exact Ya81
namespace Mth
def lastI {α:Type} (key:α→Int) (y0:Int) (l:List α):Int:=(l.getLast?.map key).getD y0
theorem lastI_snoc {α:Type} (key:α→Int) (y0:Int) (l:List α) (k:Nat) (h:k < l.length):lastI key y0 (l.take (k+1))=key l[k]:=by
 unfold lastI;rw [List.take_succ_eq_append_getElem h,List.getLast?_append];simp
theorem chk_last {α:Type} (p:α→Bool) (key:α→Int) (y0:Int) (hp:∀x,p x=true→y0 < key x) (l:List α) (k:Nat) (h:k < l.length):
 chk p (fun s t=>ltB (key s) (key t)) (l.take (k+1))=(chk p (fun s t=>ltB (key s) (key t)) (l.take k)&&(p l[k]&&decide (lastI key y0 (l.take k) < key l[k]))):=by
 rw [List.take_succ_eq_append_getElem h,chk_snoc];unfold lastI;cases hg:(l.take k).getLast? with
 |none=>
  cases hx:p l[k] with
  |false=>simp
  |true=>simp[hp _ hx]
 |some y=>simp[ltB]
theorem chk_mem {α:Type} {p:α→Bool} {r:α→α→Bool} {l:List α} (h:chk p r l=true):∀x∈l,p x=true:=by
 induction l with
 |nil=>intro x hx;simp at hx
 |cons y l ih=>
  rw [chk_cons] at h
  simp only[Bool.and_eq_true] at h
  intro x hx
  rcases List.mem_cons.1 hx with rfl|hx
  ·exact h.1.1
  ·exact ih h.2 x hx
theorem chk_lastI {α:Type} {p:α→Bool} {r:α→α→Bool} {key:α→Int} {y0:Int} {l:List α} (hp:∀x,p x=true→y0 < key x) (h:chk p r l=true):y0≤lastI key y0 l:=by
 unfold lastI;cases hg:l.getLast? with
 |none=>simp
 |some y=>
  have:=hp y (chk_mem h y (List.mem_of_getLast? hg))
  simp
  omega
theorem chk_iff {α:Type} {p:α→Bool} {r:α→α→Bool} (ht:∀a b c,r a b=true→r b c=true→r a c=true) {l:List α}:chk p r l=true↔(∀x∈l,p x=true)∧l.Pairwise (fun a b=>r a b=true):=by
 induction l with
 |nil=>simp[chk]
 |cons x l ih=>
  rw [chk_cons]
  simp only[Bool.and_eq_true,ih,List.pairwise_cons,List.mem_cons,forall_eq_or_imp]
  constructor
  ·rintro⟨⟨h1,h2⟩,h3,h4⟩;refine⟨⟨h1,h3⟩,?_,h4⟩;cases l with
   |nil=>intro a ha;simp at ha
   |cons y l=>
    simp only[List.head?_cons] at h2
    intro a ha
    rcases List.mem_cons.1 ha with rfl|ha
    ·exact h2
    ·exact ht x y a h2 ((List.pairwise_cons.1 h4).1 a ha)
  ·rintro⟨⟨h1,h3⟩,h2,h4⟩;refine⟨⟨h1,?_⟩,h3,h4⟩;cases l with
   |nil=>simp
   |cons y l=>exact h2 y (by simp)
theorem chk_and {α:Type} {p q:α→Bool} {r:α→α→Bool} {l:List α}:chk (fun x=>p x&&q x) r l=(chk p r l&&l.all q):=by
 induction l with
 |nil=>simp[chk]
 |cons x l ih=>
  rw [chk_cons,ih,chk_cons,List.all_cons]
  generalize p x=a
  generalize q x=b
  generalize chk p r l=d
  generalize l.all q=e
  cases a<;>cases b<;>cases d<;>cases e<;>simp
theorem asc_le:∀(B A:List Int),A.Pairwise (· < ·)→B.Pairwise (· < ·)→(∀x∈A,x∈B)→A.length≤B.length:=by
 intro B;induction B with
 |nil=>
  intro A _ _ hs
  cases A with
  |nil=>simp
  |cons a A=>exact absurd (hs a (by simp)) (by simp)
 |cons b B ih=>
  intro A hA hB hs
  cases A with
  |nil=>simp
  |cons a A=>
   have hA':=List.pairwise_cons.1 hA
   have hB':=List.pairwise_cons.1 hB
   by_cases hab:a=b
   ·subst hab
    have:=ih A hA'.2 hB'.2 (fun x hx=>by
     rcases List.mem_cons.1 (hs x (List.mem_cons_of_mem _ hx)) with h|h
     ·have:=hA'.1 x hx;omega
     ·exact h)
    simp;omega
   ·have haB:a∈B:=by
     exact Za104
    have hba:=hB'.1 a haB
    have:=ih (a::A) hA hB'.2 (fun x hx=>by
     rcases List.mem_cons.1 (hs x hx) with h|h
     ·exact Za109
     ·exact h)
    simp at this ⊢;omega
theorem asc_eq:∀(B A:List Int),A.Pairwise (· < ·)→B.Pairwise (· < ·)→(∀x∈A,x∈B)→B.length≤A.length→A=B:=by
 intro B;induction B with
 |nil=>
  intro A _ _ hs _
  cases A with
  |nil=>rfl
  |cons a A=>exact absurd (hs a (by simp)) (by simp)
 |cons b B ih=>
  intro A hA hB hs hl
  cases A with
  |nil=>simp at hl
  |cons a A=>
   have hA':=List.pairwise_cons.1 hA
   have hB':=List.pairwise_cons.1 hB
   by_cases hab:a=b
   ·subst hab
    rw [ih A hA'.2 hB'.2 (fun x hx=>by
     rcases List.mem_cons.1 (hs x (List.mem_cons_of_mem _ hx)) with h|h
     ·have:=hA'.1 x hx;omega
     ·exact h) (by simpa using hl)]
   ·have haB:a∈B:=by
     exact Za104
    have hba:=hB'.1 a haB
    have:=asc_le B (a::A) hA hB'.2 (fun x hx=>by
     rcases List.mem_cons.1 (hs x hx) with h|h
     ·exact Za109
     ·exact h)
    simp at this hl;omega
def nbrs (n:Nd):List Int:=n.kids++(if n.par= -1 then[] else[n.par])
def srt (l:List Int):List Int:=l.mergeSort fun x y=>decide (x≤y)
theorem srt_length (l:List Int):(srt l).length=l.length:=List.length_mergeSort l
theorem srt_mem (l:List Int) (x:Int):x∈srt l↔x∈l:=(List.mergeSort_perm l _).mem_iff
theorem srt_asc {l:List Int} (h:l.Nodup):(srt l).Pairwise (· < ·):=by
 have h1:(srt l).Pairwise (fun x y=>decide (x≤y)=true):=List.pairwise_mergeSort (le:=fun x y:Int=>decide (x≤y)) (fun a b c h1 h2=>by simp at *;omega) (fun a b=>by simp;omega) l;have h2:(srt l).Nodup:=(List.mergeSort_perm l _).symm.nodup h;exact(h1.and h2).imp (fun {a b} h=>by have:=of_decide_eq_true h.1;have:=h.2;omega)
theorem has_iff (l:List Int) (x:Int):hasB l x=true↔x∈l:=by
 unfold hasB;rw [List.any_eq_true];constructor
 ·rintro⟨y,hy,h⟩;have:=of_decide_eq_true h;subst this;exact hy
 ·intro h;exact⟨x,h,by simp⟩
theorem ltB_trans (a b c:Int) (h1:ltB a b=true) (h2:ltB b c=true):ltB a c=true:=by
 unfold ltB at *;simp at *;omega
theorem place_kids {n:Nd} (h:placeB n=true):(∀x∈n.kids,kidB n.id n.par x=true)∧n.kids.Pairwise (· < ·)∧ -1≤n.par:=by
 unfold placeB at h;simp only[Bool.and_eq_true] at h;obtain⟨h1,h2⟩:=(chk_iff (r:=ltB) ltB_trans).1 h.2;exact⟨h1,h2.imp (fun {a b} h=>of_decide_eq_true h),(of_decide_eq_true h.1.1.1.2).1⟩
theorem nbrs_nodup {n:Nd} (h:placeB n=true):(nbrs n).Nodup:=by
 obtain⟨h1,h2,_⟩:=place_kids h;have h3:n.kids.Nodup:=h2.imp (fun {a b} h=>by omega);unfold nbrs;split
 ·simpa using h3
 ·rw [List.nodup_append];refine⟨h3,by simp,?_⟩;intro a ha b hb;have hb':b=n.par:=by simpa using hb
  have:=h1 a ha;unfold kidB at this;simp only[Bool.and_eq_true,decide_eq_true_eq] at this;rw [hb'];exact this.2
theorem near_iff {n:Nd} (h:placeB n=true) (x:Int):nearB n x=true↔x∈nbrs n:=by
 obtain⟨h1,_,h3⟩:=place_kids h;unfold nearB nbrs;rw [Bool.or_eq_true,has_iff,List.mem_append];constructor
 ·rintro(h|h)
  ·simp only[Bool.and_eq_true,decide_eq_true_eq] at h;right
   rw [if_neg (by omega)];simp[h.2]
  ·exact .inl h
 ·rintro(h|h)
  ·exact .inr h
  ·left
   split at h
   ·simp at h
   ·have:x=n.par:=by simpa using h
    exact Za99
theorem nbrs_length {n:Nd} (h:placeB n=true):((nbrs n).length:Int)=n.kids.length+(if 0≤n.par then 1 else 0):=by
 obtain⟨_,_,h3⟩:=place_kids h;unfold nbrs;by_cases hp:n.par= -1
 ·rw [if_pos hp,if_neg (by omega)];simp
 ·rw [if_neg hp,if_pos (by omega)];simp
theorem told_eq {n:Nd} (hp:placeB n=true):toldB n=(decide (n.seen.map (·.f)=srt (nbrs n))&&n.seen.all snB):=by
 have hnd:=nbrs_nodup hp;have hsr:=srt_asc hnd;unfold toldB;rw [chk_and,←nbrs_length hp,←Bool.and_assoc];congr 1
 rw [Bool.eq_iff_iff,Bool.and_eq_true,decide_eq_true_iff,decide_eq_true_iff,chk_iff (fun a b c h1 h2=>ltB_trans a.f b.f c.f h1 h2)];constructor
 ·rintro⟨h1,h2,h3⟩;refine asc_eq _ _ ?_ hsr ?_ ?_
  ·rw [List.pairwise_map];exact h3.imp (fun {a b} h=>of_decide_eq_true h)
  ·intro x hx;obtain⟨s,hs,rfl⟩:=List.mem_map.1 hx;rw [srt_mem];exact(near_iff hp _).1 (h2 s hs)
  ·rw [srt_length,List.length_map];omega
 ·intro h;refine⟨?_,?_,?_⟩
  ·have:=congrArg List.length h;rw [srt_length,List.length_map] at this;omega
  ·intro s hs;rw [near_iff hp,←srt_mem,←h];exact List.mem_map.2 ⟨s,hs,rfl⟩
  ·rw [←h,List.pairwise_map] at hsr;exact hsr.imp (fun {a b} h=>decide_eq_true h)
end Mth
namespace Mth
abbrev klt (a b:Pu):Prop:=a.k.toList < b.k.toList
theorem less_iff (a b:ByteArray):Op.bytesLess a.toList b.toList=true↔a.toList < b.toList:=by
 rw [bytesLess_eq,decide_eq_true_iff]
theorem sle_false_iff (a b:ByteArray):sle a b=false↔b.toList < a.toList:=by
 unfold sle;rw [bytesLess_eq,Bool.or_eq_false_iff,decide_eq_false_iff_not,beq_eq_false_iff_ne];constructor
 ·rintro⟨h1,h2⟩;rcases List.le_iff_lt_or_eq.1 (List.not_lt.1 h1) with h|h
  ·exact h
  ·exact absurd h.symm h2
 ·intro h;exact⟨List.lt_asymm h,fun e=>by rw [e] at h;exact List.lt_irrefl _ h⟩
theorem pairwise_of_next {R:Pu→Pu→Prop} (tr:∀a b c,R a b→R b c→R a c):∀(l:List Pu),(∀i (h:i+1 < l.length),R l[i] l[i+1])→l.Pairwise R:=by
 intro l;induction l with
 |nil=>intro _;exact List.Pairwise.nil
 |cons x r ih=>
  intro h
  have hr:r.Pairwise R:=ih fun i hi=>h (i+1) (by simpa using hi)
  refine List.Pairwise.cons ?_ hr
  intro y hy
  cases r with
  |nil=>simp at hy
  |cons z s=>
   have hxz:R x z:=h 0 (by simp)
   rcases List.mem_cons.1 hy with rfl|hy
   ·exact hxz
   ·exact tr _ _ _ hxz ((List.pairwise_cons.1 hr).1 y hy)
theorem psOk_iff (l:List Pu):psOk l=true↔(∀p∈l,puOk p=true)∧l.Pairwise klt∧l.length≤20:=by
 unfold psOk;rw [Bool.and_eq_true,List.all_eq_true,decide_eq_true_iff];constructor
 ·rintro⟨h,h20⟩;refine⟨?_,?_,h20⟩
  ·intro p hp;obtain⟨i,hi,rfl⟩:=List.mem_iff_getElem.1 hp;have h1:=h i (List.mem_range.2 hi);unfold okAt at h1;rw [Bool.and_eq_true] at h1;simpa [List.getD,hi] using h1.1
  ·refine pairwise_of_next (fun a b c (h1:klt a b) (h2:klt b c)=>(List.lt_trans h1 h2:klt a c)) l fun i hi=>?_
   have h1:=h (i+1) (List.mem_range.2 hi);unfold okAt at h1;rw [Bool.and_eq_true] at h1;have h2:=h1.2;have hi0:i < l.length:=by omega
   simp[List.getD,hi,hi0] at h2;exact(sle_false_iff _ _).1 h2
 ·rintro⟨h,hp,h20⟩;refine⟨?_,h20⟩;intro i hi;have hi':=List.mem_range.1 hi;unfold okAt;rw [Bool.and_eq_true];refine⟨by simpa [List.getD,hi'] using h l[i] (List.getElem_mem hi'),?_⟩;cases i with
  |zero=>rfl
  |succ i=>
   have hi0:i < l.length:=by omega
   have h2:=(sle_false_iff l[i+1].k l[i].k).2 (List.pairwise_iff_getElem.1 hp i (i+1) hi0 hi' (by omega))
   simp[List.getD,hi',hi0,h2]
def headP (l:List Pu) (k:ByteArray):List Pu:=l.takeWhile fun q=>Op.bytesLess q.k.toList k.toList
def fromP (l:List Pu) (k:ByteArray):List Pu:=l.dropWhile fun q=>Op.bytesLess q.k.toList k.toList
def tailP (l:List Pu) (k:ByteArray):List Pu:=match fromP l k with
 |[]=>[]
 |q::r=>if q.k.toList == k.toList then r else q::r
def putP (l:List Pu) (p:Pu):List Pu:=headP l p.k++p::tailP l p.k
theorem head_from (l:List Pu) (k:ByteArray):headP l k++fromP l k=l:=List.takeWhile_append_dropWhile
theorem takeWhile_imp (f:Pu→Bool):∀(l:List Pu) (q:Pu),q∈l.takeWhile f→f q=true:=by
 intro l;induction l with
 |nil=>intro q hq;simp at hq
 |cons x r ih=>
  intro q hq
  rw [List.takeWhile_cons] at hq
  split at hq
  ·rename_i hx
   rcases List.mem_cons.1 hq with rfl|hq
   ·exact hx
   ·exact ih q hq
  ·simp at hq
theorem head_lt {l:List Pu} {k:ByteArray} {q:Pu} (h:q∈headP l k):q.k.toList < k.toList:=(less_iff _ _).1 (takeWhile_imp _ l q h)
theorem tail_sub (l:List Pu) (k:ByteArray):∀q∈tailP l k,q∈fromP l k:=by
 intro q hq;unfold tailP at hq;split at hq
 ·simp at hq
 ·rename_i x r e
  rw [e];split at hq
  ·exact List.mem_cons_of_mem _ hq
  ·exact hq
theorem from_head (l:List Pu) (k:ByteArray) (q:Pu) (r:List Pu) (h:fromP l k=q::r):¬q.k.toList < k.toList:=by
 unfold fromP at h;have h2:=List.head?_dropWhile_not (fun q:Pu=>Op.bytesLess q.k.toList k.toList) l;rw [h] at h2;simp at h2;intro h3;rw [(less_iff _ _).2 h3] at h2;cases h2
theorem tail_gt {l:List Pu} {k:ByteArray} (hp:l.Pairwise klt):∀q∈tailP l k,k.toList < q.k.toList:=by
 have hp2:(fromP l k).Pairwise klt:=hp.sublist (List.dropWhile_sublist _);unfold tailP;cases hf:fromP l k with
 |nil=>intro q hq;simp at hq
 |cons x r=>
  have hx:=from_head l k x r hf
  rw [hf] at hp2
  have hr:=(List.pairwise_cons.1 hp2).1
  dsimp only
  by_cases he:x.k.toList=k.toList
  ·rw [if_pos (by simpa using he)];intro q hq;have:=hr q hq;unfold klt at this;rw [he] at this;exact this
  ·rw [if_neg (by simpa using he)]
   have hkx:k.toList < x.k.toList:=by
    rcases List.le_iff_lt_or_eq.1 (List.not_lt.1 hx) with h|h
    ·exact h
    ·exact absurd h.symm he
   intro q hq;rcases List.mem_cons.1 hq with rfl|hq
   ·exact hkx
   ·exact List.lt_trans hkx (hr q hq)
theorem tail_pairwise {l:List Pu} {k:ByteArray} (hp:l.Pairwise klt):(tailP l k).Pairwise klt:=by
 have hp2:(fromP l k).Pairwise klt:=hp.sublist (List.dropWhile_sublist _);unfold tailP;cases hf:fromP l k with
 |nil=>exact List.Pairwise.nil
 |cons x r=>
  rw [hf] at hp2
  dsimp only
  split
  ·exact(List.pairwise_cons.1 hp2).2
  ·exact hp2
theorem psOk_put {l:List Pu} (p:Pu) (h:psOk l=true):psOk (putP l p)=(puOk p&&decide ((putP l p).length≤20)):=by
 obtain⟨h1,h2,h3⟩:=(psOk_iff l).1 h;apply Bool.eq_iff_iff.2
 rw [psOk_iff,Bool.and_eq_true,decide_eq_true_iff];constructor
 ·rintro⟨g1,_,g3⟩;exact⟨g1 p (by unfold putP;simp),g3⟩
 ·rintro⟨g1,g3⟩;refine⟨?_,?_,g3⟩
  ·intro q hq;unfold putP at hq;rcases List.mem_append.1 hq with hq|hq
   ·exact h1 q ((List.takeWhile_sublist _).mem hq)
   ·rcases List.mem_cons.1 hq with rfl|hq
    ·exact g1
    ·exact h1 q ((List.dropWhile_sublist _).mem (tail_sub l p.k q hq))
  ·unfold putP;rw [List.pairwise_append];refine⟨h2.sublist (List.takeWhile_sublist _),List.pairwise_cons.2 ⟨fun q hq=>tail_gt h2 q hq,tail_pairwise h2⟩,?_⟩;intro q hq q' hq';rcases List.mem_cons.1 hq' with rfl|hq'
   ·exact head_lt hq
   ·exact List.lt_trans (head_lt hq) (tail_gt h2 q' hq')
def withP (l:List Pu) (p:Pu) (n:Int):List Pu×Bool:=
 if psOk l&&decide (1≤n∧n≤1000000000)&&psOk (putP l p) then(putP l p,true) else(l,false)
end Mth
end Go.Proofs.YtppmcficiphgdaaGreatDoor
