/- Parts. -/
import Derived.Test.YtdlokncalhopoaaGreatPy20
import Derived.Test.YtdlokncalhopoaaGreatPy1
import Derived.Test.YtdlokncalhopoaaGreatPy7
import Derived.Test.YtdlokncalhopoaaGreatPy8
namespace Go.Proofs.YtdlokncalhopoaaGreat
set_option maxHeartbeats 4000000
set_option maxRecDepth 100000
open Go.RowKit
open Mth
def GivesO (w:World) (r:List Pu×Bool) (e:Ending) (w':World):Prop:=∃v,e= .returned (.tuple #[v,.bool r.2])∧v≠ .slice none 0 0∧w'.ownsRow w.heap.size 80 4 v r.1.length (GR.flat encP r.1)∧Below w.heap.size w w'
theorem Mth.purseOf_am {l:List Pu} {key:ByteArray} (h:psOk l=true):(0≤(purseOf l key).m∧(purseOf l key).m≤1000000000)∧(0≤(purseOf l key).f∧(purseOf l key).f≤1000000000)∧(0≤(purseOf l key).s∧(purseOf l key).s≤1000000000):=by
 obtain⟨h1,_,_⟩:=(psOk_iff l).1 h
 unfold purseOf
 cases hf:l.find? (fun p=>p.k.toList == key.toList) with
 |none=>simp
 |some q=>
  have hq:=h1 q (List.mem_of_find?_eq_some hf)
  unfold puOk at hq
  simp only[Bool.and_eq_true] at hq
  exact⟨of_decide_eq_true hq.1.1.1.2,of_decide_eq_true hq.1.1.2,of_decide_eq_true hq.1.2⟩
theorem l03Add (b off cap:Nat) (l:List Pu) (key:ByteArray) (dm df ds n:Int) (w:World) (hl:l.length≤1048600) (hcap:l.length≤cap) (hk:∀p∈l,p.k.size≤1048576) (hkey:key.size≤1048576)
 (hd1:dm= -1∨dm=0∨dm=1) (hd2:df= -1∨df=0∨df=1) (hd3:ds= -1∨ds=0∨ds=1) (ha:PursesAt w (some ⟨b,off,none⟩) l):
 Calls Tryz.prog 43 #[.slice (some ⟨b,off,none⟩) l.length cap,.string key,.int .i64 dm,.int .i64 df,.int .i64 ds,.int .i64 n] w (GivesO w (addP l key dm df ds n)):=by
 have hkm:∀p∈l,p.k.size≤maxLen:=fun p hp=>by have:=hk p hp;unfold maxLen;omega
 have HPO:=hide (specPurseOf (some ⟨b,off,none⟩) cap l key w hl ha)
 have HA:=hide ha
 unfold GivesO
 by_cases hin:psOk l=true∧1≤n∧n≤1000000000
 ·obtain⟨hok,hn1,hn2⟩:=hin
  obtain⟨⟨m0,m1⟩,⟨f0,f1⟩,s0,s1⟩:=purseOf_am (key:=key) hok
  obtain⟨u10,u11⟩:=unit_mul hd1 ⟨hn1,hn2⟩
  obtain⟨u20,u21⟩:=unit_mul hd2 ⟨hn1,hn2⟩
  obtain⟨u30,u31⟩:=unit_mul hd3 ⟨hn1,hn2⟩
  have hpk:=purseOf_k l key
  have HWI:=hide (fun w1 (hb:Below w.heap.size w w1)=>l03With_in b off cap l (shiftP (purseOf l key) dm df ds n) n w1 hcap hkm (by show(purseOf l key).k.size≤maxLen;rw [hpk];unfold maxLen;omega) (GR.At.below ha hb) hok ⟨hn1,hn2⟩)
  have hAm:decide (Inn n 0 1000000000)=true:=decide_eq_true ⟨by omega,hn2⟩
  unfold addP
  clear ha hok hk hkm hd1 hd2 hd3
  unfold shiftP at *
  generalize purseOf l key=p at *
  obtain⟨pk,pm,pf,ps⟩:=p
  dsimp only at *
  subst hpk
  generalize withP l ⟨pk,pm+dm*n,pf+df*n,ps+ds*n⟩ n=r at *
  go_enter Tryz.func43,Tryz.ntmps43
  go_wp2_with fail
  refine(unhide HPO).mono ?_
  rintro e w1 ⟨rfl,hb1⟩
  have HB1:=hide hb1
  clear hb1 HPO
  go_wp2_with (go_at_call 20;refine(l01Amount _ _).mono ?_;rintro e w2 ⟨rfl,rfl⟩;rw [hAm])
  refine(unhide HWI _ ((unhide HB1).alloc (unhide HB1).size _)).mono ?_
  rintro e w3 ⟨v,rfl,hv,hown,hb3⟩
  have HB3:=hide (((unhide HB1).alloc (unhide HB1).size _).trans (hb3.mono (by have:=(unhide HB1).size;simp;omega)))
  have HO3:=hide (own_lower (b':=w.heap.size) hown (by have:=(unhide HB1).size;simp;omega))
  have HV:=hide hv
  clear hb3 hown hv
  go_wp2_with fail
  exact bodyPost_ret (v:= .tuple #[v,.bool r.2]) (by simp[results,Tryz.results43,go_sem]) rfl ⟨v,rfl,unhide HV,unhide HO3,unhide HB3⟩
 ·have hno:psOk l=false∨¬(1≤n∧n≤1000000000):=by
   cases h:psOk l
   ·exact .inl rfl
   ·exact .inr (fun hn=>hin ⟨h,hn⟩)
  have HAD:=hide (show addP l key dm df ds n=(l,false) by
   rcases hno with h|h
   ·exact addP_list h
   ·exact addP_n h)
  have HWN:=hide (fun p w1 (hb:Below w.heap.size w w1)=>l03With_not (some ⟨b,off,none⟩) cap l p n w1 hl hkm (fun h=>by cases h) (GR.At.below ha hb) hno)
  rw [unhide HAD]
  clear ha hin hno hk hkm hd1 hd2 hd3 HAD
  generalize purseOf l key=p at *
  obtain⟨pk,pm,pf,ps⟩:=p
  cases hAm:decide (Inn n 0 1000000000)
  all_goals
   go_enter Tryz.func43,Tryz.ntmps43
   go_wp2_with fail
   refine(unhide HPO).mono ?_
   rintro e w1 ⟨rfl,hb1⟩
   have HB1:=hide hb1
   clear hb1 HPO
   go_wp2_with (go_at_call 20;refine(l01Amount _ _).mono ?_;rintro e w2 ⟨rfl,rfl⟩;rw [hAm])
   refine(unhide HWN ⟨_,_,_,_⟩ _ ((unhide HB1).alloc (unhide HB1).size _)).mono ?_
   rintro e w3 ⟨v,rfl,hv,hown,hb3⟩
   have HB3:=hide (((unhide HB1).alloc (unhide HB1).size _).trans (hb3.mono (by have:=(unhide HB1).size;simp;omega)))
   have HO3:=hide (own_lower (b':=w.heap.size) hown (by have:=(unhide HB1).size;simp;omega))
   have HV:=hide hv
   clear hb3 hown hv
   go_wp2_with fail
   exact bodyPost_ret (v:= .tuple #[v,.bool false]) (by simp[results,Tryz.results43,go_sem]) rfl ⟨v,rfl,unhide HV,unhide HO3,unhide HB3⟩
theorem specMint (b off cap:Nat) (l:List Pu) (key:ByteArray) (n:Int) (w:World) (hl:l.length≤1048600) (hcap:l.length≤cap) (hk:∀p∈l,p.k.size≤1048576) (hkey:key.size≤1048576) (ha:PursesAt w (some ⟨b,off,none⟩) l):
 Calls Tryz.prog 47 #[.slice (some ⟨b,off,none⟩) l.length cap,.string key,.int .i64 n] w (GivesO w (addP l key (1) (1) (0) n)):=by
 have H:=hide (l03Add b off cap l key (1) (1) (0) n w hl hcap hk hkey (by omega) (by omega) (by omega) ha)
 clear ha hk
 generalize addP l key (1) (1) (0) n=r at *
 unfold GivesO at *
 go_enter Tryz.func47,Tryz.ntmps47
 go_wp2_with fail
 refine(unhide H).mono ?_
 rintro e w1 ⟨v,rfl,hv,hown,hb⟩
 have HV:=hide hv
 have HO:=hide hown
 have HB:=hide hb
 clear hown hb hv
 go_wp2_with fail
 exact bodyPost_ret (v:= .tuple #[v,.bool r.2]) (by simp[results,Tryz.results47,go_sem]) rfl ⟨v,rfl,unhide HV,unhide HO,unhide HB⟩
theorem specGain (b off cap:Nat) (l:List Pu) (key:ByteArray) (n:Int) (w:World) (hl:l.length≤1048600) (hcap:l.length≤cap) (hk:∀p∈l,p.k.size≤1048576) (hkey:key.size≤1048576) (ha:PursesAt w (some ⟨b,off,none⟩) l):
 Calls Tryz.prog 27 #[.slice (some ⟨b,off,none⟩) l.length cap,.string key,.int .i64 n] w (GivesO w (addP l key (0) (1) (0) n)):=by
 have H:=hide (l03Add b off cap l key (0) (1) (0) n w hl hcap hk hkey (by omega) (by omega) (by omega) ha)
 clear ha hk
 generalize addP l key (0) (1) (0) n=r at *
 unfold GivesO at *
 go_enter Tryz.func27,Tryz.ntmps27
 go_wp2_with fail
 refine(unhide H).mono ?_
 rintro e w1 ⟨v,rfl,hv,hown,hb⟩
 have HV:=hide hv
 have HO:=hide hown
 have HB:=hide hb
 clear hown hb hv
 go_wp2_with fail
 exact bodyPost_ret (v:= .tuple #[v,.bool r.2]) (by simp[results,Tryz.results27,go_sem]) rfl ⟨v,rfl,unhide HV,unhide HO,unhide HB⟩
theorem specPart (b off cap:Nat) (l:List Pu) (key:ByteArray) (n:Int) (w:World) (hl:l.length≤1048600) (hcap:l.length≤cap) (hk:∀p∈l,p.k.size≤1048576) (hkey:key.size≤1048576) (ha:PursesAt w (some ⟨b,off,none⟩) l):
 Calls Tryz.prog 69 #[.slice (some ⟨b,off,none⟩) l.length cap,.string key,.int .i64 n] w (GivesO w (addP l key (0) (-1) (0) n)):=by
 have H:=hide (l03Add b off cap l key (0) (-1) (0) n w hl hcap hk hkey (by omega) (by omega) (by omega) ha)
 clear ha hk
 generalize addP l key (0) (-1) (0) n=r at *
 unfold GivesO at *
 go_enter Tryz.func69,Tryz.ntmps69
 go_wp2_with fail
 refine(unhide H).mono ?_
 rintro e w1 ⟨v,rfl,hv,hown,hb⟩
 have HV:=hide hv
 have HO:=hide hown
 have HB:=hide hb
 clear hown hb hv
 go_wp2_with fail
 exact bodyPost_ret (v:= .tuple #[v,.bool r.2]) (by simp[results,Tryz.results69,go_sem]) rfl ⟨v,rfl,unhide HV,unhide HO,unhide HB⟩
theorem specSpend (b off cap:Nat) (l:List Pu) (key:ByteArray) (n:Int) (w:World) (hl:l.length≤1048600) (hcap:l.length≤cap) (hk:∀p∈l,p.k.size≤1048576) (hkey:key.size≤1048576) (ha:PursesAt w (some ⟨b,off,none⟩) l):
 Calls Tryz.prog 66 #[.slice (some ⟨b,off,none⟩) l.length cap,.string key,.int .i64 n] w (GivesO w (addP l key (0) (-1) (1) n)):=by
 have H:=hide (l03Add b off cap l key (0) (-1) (1) n w hl hcap hk hkey (by omega) (by omega) (by omega) ha)
 clear ha hk
 generalize addP l key (0) (-1) (1) n=r at *
 unfold GivesO at *
 go_enter Tryz.func66,Tryz.ntmps66
 go_wp2_with fail
 refine(unhide H).mono ?_
 rintro e w1 ⟨v,rfl,hv,hown,hb⟩
 have HV:=hide hv
 have HO:=hide hown
 have HB:=hide hb
 clear hown hb hv
 go_wp2_with fail
 exact bodyPost_ret (v:= .tuple #[v,.bool r.2]) (by simp[results,Tryz.results66,go_sem]) rfl ⟨v,rfl,unhide HV,unhide HO,unhide HB⟩
theorem specUnspend (b off cap:Nat) (l:List Pu) (key:ByteArray) (n:Int) (w:World) (hl:l.length≤1048600) (hcap:l.length≤cap) (hk:∀p∈l,p.k.size≤1048576) (hkey:key.size≤1048576) (ha:PursesAt w (some ⟨b,off,none⟩) l):
 Calls Tryz.prog 67 #[.slice (some ⟨b,off,none⟩) l.length cap,.string key,.int .i64 n] w (GivesO w (addP l key (0) (1) (-1) n)):=by
 have H:=hide (l03Add b off cap l key (0) (1) (-1) n w hl hcap hk hkey (by omega) (by omega) (by omega) ha)
 clear ha hk
 generalize addP l key (0) (1) (-1) n=r at *
 unfold GivesO at *
 go_enter Tryz.func67,Tryz.ntmps67
 go_wp2_with fail
 refine(unhide H).mono ?_
 rintro e w1 ⟨v,rfl,hv,hown,hb⟩
 have HV:=hide hv
 have HO:=hide hown
 have HB:=hide hb
 clear hown hb hv
 go_wp2_with fail
 exact bodyPost_ret (v:= .tuple #[v,.bool r.2]) (by simp[results,Tryz.results67,go_sem]) rfl ⟨v,rfl,unhide HV,unhide HO,unhide HB⟩
namespace Mth
structure Op5 where
 K:Int
 no:Int
 k:ByteArray
 n:Int
 m:Mg
def zmB (m:Mg):Bool:=decide (m.K=0∧m.F=0∧m.T=0∧m.I=0∧m.L=0∧m.k.toList=[]∧m.N=0)
def opOk (o:Op5):Bool:=
 if o.K=0∨o.K=3∨o.K=4 then keyOk o.k.data.toList&&smB o.n&&decide (o.no=0)&&zmB o.m
 else if o.K=1 then keyOk o.k.data.toList&&smB o.n&&smB o.no&&zmB o.m
 else if o.K=2 then decide (o.k.toList=[])&&decide (o.n=0)&&smB o.no&&zmB o.m
 else if o.K=5 then decide (o.k.toList=[])&&decide (o.n=0)&&decide (o.no=0)&&zmB o.m
 else if o.K=6 then decide (o.k.toList=[])&&decide (o.n=0)&&decide (o.no=0)&&mgOk o.m
 else false
end Mth
abbrev opw (o:Op5):Value:= .agg #[.int .i64 o.K,.int .i64 o.no,.string o.k,.int .i64 o.n,.int .i64 o.m.K,.int .i64 o.m.F,.int .i64 o.m.T,.int .i64 o.m.I,.int .i64 o.m.L,.string o.m.k,.int .i64 o.m.N]
namespace Mth
theorem asc_of_chk {α:Type} {p:α→Bool} {f:α→Int} {l:List α} (h:chk p (fun s t=>ltB (f s) (f t)) l=true):l.Pairwise (fun s t=>f s < f t):=by
 have:=((chk_iff (p:=p) (r:=fun s t=>ltB (f s) (f t)) (fun a b c h1 h2=>ltB_trans _ _ _ h1 h2)).1 h).2
 exact this.imp (fun h=>by simpa [ltB] using h)
def setPu (n:Nd) (l:List Pu):Nd:=⟨n.id,n.par,n.kids,n.next,l,n.out,n.seen,n.old,n.reqs⟩
def setOut (n:Nd) (l:List Snt):Nd:=⟨n.id,n.par,n.kids,n.next,n.pu,l,n.seen,n.old,n.reqs⟩
def setSeen (n:Nd) (l:List Sn):Nd:=⟨n.id,n.par,n.kids,n.next,n.pu,n.out,l,n.old,n.reqs⟩
def setReqs (n:Nd) (l:List Rq):Nd:=⟨n.id,n.par,n.kids,n.next,n.pu,n.out,n.seen,n.old,l⟩
def setOld (n:Nd) (x:Int):Nd:=⟨n.id,n.par,n.kids,n.next,n.pu,n.out,n.seen,x,n.reqs⟩
def amtP (n:Nd) (key:ByteArray) (most:Int):Int:=if (purseOf n.pu key).f < most then(purseOf n.pu key).f else most
def payB (n:Nd) (amt:Int):Bool:=decide (1≤amt∧n.out.length < 40∧n.next < 1000000000)
def paidN (n:Nd) (dst:Int) (key:ByteArray) (amt:Int):Nd:=⟨n.id,n.par,n.kids,n.next+1,(addP n.pu key 0 (-1) 0 amt).1,n.out++[⟨n.next,dst,key,amt⟩],n.seen,n.old,n.reqs⟩
def giveN (n:Nd) (dst:Int) (key:ByteArray) (most:Int):Nd×List Mg×Bool:=
 if payB n (amtP n key most)=true then(paidN n dst key (amtP n key most),[payM (paidN n dst key (amtP n key most)) ⟨n.next,dst,key,amtP n key most⟩],true) else(n,[],false)
def reqI (l:List Rq) (no:Int):Nat:=(l.takeWhile (fun r=>decide (r.no < no))).length
def reqF (l:List Rq) (no:Int):Bool:=(l[reqI l no]?).elim false (fun r=>decide (r.no=no))
def insQ (l:List Rq) (q:Rq):List Rq:=l.take (reqI l q.no)++q::l.drop (reqI l q.no)
def keepN (n:Nd) (q:Rq):Nd:=if 30 < (insQ n.reqs q).length then setReqs (setOld n ((insQ n.reqs q).headD default).no) (insQ n.reqs q).tail else setReqs n (insQ n.reqs q)
def sameQ (r:Rq) (key:ByteArray) (a:Int):Bool:=decide (r.s=0)&&(r.k.toList == key.toList)&&decide (r.n=a)
def admitN (n:Nd) (no:Int) (key:ByteArray) (a:Int):Nd×Int:=
 if no≤n.old then(n,2)
 else if reqF n.reqs no=true then(n,if sameQ (n.reqs.getD (reqI n.reqs no) default) key a=true then 0 else 1)
 else(keepN (setPu n (addP n.pu key 0 (-1) 1 a).1) ⟨no,key,a,if (addP n.pu key 0 (-1) 1 a).2=true then 0 else 1⟩,if (addP n.pu key 0 (-1) 1 a).2=true then 0 else 1)
def relQ (r:Rq):Rq:=⟨r.no,r.k,r.n,2⟩
def releaseN (n:Nd) (no:Int):Nd×Int:=
 if no≤n.old then(n,2)
 else if reqF n.reqs no=false then(n,1)
 else if (n.reqs.getD (reqI n.reqs no) default).s=1 then(n,1)
 else if (n.reqs.getD (reqI n.reqs no) default).s=2 then(n,0)
 else if (addP n.pu (n.reqs.getD (reqI n.reqs no) default).k 0 1 (-1) (n.reqs.getD (reqI n.reqs no) default).n).2=true then
  (setReqs (setPu n (addP n.pu (n.reqs.getD (reqI n.reqs no) default).k 0 1 (-1) (n.reqs.getD (reqI n.reqs no) default).n).1) (n.reqs.set (reqI n.reqs no) (relQ (n.reqs.getD (reqI n.reqs no) default))),0)
 else(n,1)
def seenI (l:List Sn) (f:Int):Nat:=l.findIdx (fun s=>decide (s.f=f))
def lowS (s:Sn) (low:Int):Int:=if s.l < low then low else s.l
def idsS (s:Sn) (low:Int):List Int:=s.ids.filter (fun x=>decide (lowS s low≤x))
def hasS (s:Sn) (low i:Int):Bool:=decide (i < lowS s low)||hasB (idsS s low) i
def insI (l:List Int) (x:Int):List Int:=l.takeWhile (fun y=>decide (y < x))++x::l.dropWhile (fun y=>decide (y < x))
def ackM (n:Nd) (m:Mg):Mg:=⟨2,n.id,m.F,m.I,0,ByteArray.empty,0⟩
def gainB (n:Nd) (s:Sn) (m:Mg):Bool:=(addP n.pu m.k 0 1 0 m.N).2&&decide ((idsS s m.L).length < 40)
def takeN (n:Nd) (m:Mg):Nd×Bool:=
 if hasS (n.seen.getD (seenI n.seen m.F) default) m.L m.I=true then
  (setSeen n (n.seen.set (seenI n.seen m.F) ⟨m.F,lowS (n.seen.getD (seenI n.seen m.F) default) m.L,idsS (n.seen.getD (seenI n.seen m.F) default) m.L⟩),true)
 else if gainB n (n.seen.getD (seenI n.seen m.F) default) m=true then
  (setSeen (setPu n (addP n.pu m.k 0 1 0 m.N).1) (n.seen.set (seenI n.seen m.F) ⟨m.F,lowS (n.seen.getD (seenI n.seen m.F) default) m.L,insI (idsS (n.seen.getD (seenI n.seen m.F) default) m.L) m.I⟩),true)
 else(setSeen n (n.seen.set (seenI n.seen m.F) ⟨m.F,lowS (n.seen.getD (seenI n.seen m.F) default) m.L,idsS (n.seen.getD (seenI n.seen m.F) default) m.L⟩),false)
def outB2 (m:Mg) (s:Snt):Bool:=decide (s.i=m.I∧s.t=m.F)
def hearN (n:Nd) (m:Mg):Nd×List Mg×Int:=
 if m.K=1 then((takeN n m).1,if (takeN n m).2=true then[ackM n m] else[],if (takeN n m).2=true then 0 else 1)
 else if m.K=2 then(setOut n (n.out.filter (fun s=> !outB2 m s)),[],0)
 else if hasB n.kids m.F=true then((giveN n m.F m.k m.N).1,(giveN n m.F m.k m.N).2.1,0)
 else(n,[],1)
def wantM (n:Nd) (o:Op5):Mg:=⟨0,n.id,n.par,0,0,o.k,o.n⟩
def actN (n:Nd) (o:Op5):Nd×List Mg×Int:=
 if o.K=0 then(if n.par= -1∧(addP n.pu o.k 1 1 0 o.n).2=true then(setPu n (addP n.pu o.k 1 1 0 o.n).1,[],0) else(n,[],1))
 else if o.K=1 then((admitN n o.no o.k o.n).1,[],(admitN n o.no o.k o.n).2)
 else if o.K=2 then((releaseN n o.no).1,[],(releaseN n o.no).2)
 else if o.K=3 then(if n.par= -1 then(n,[],1) else(n,[wantM n o],0))
 else if o.K=4 then(if n.par= -1 then(n,[],1) else((giveN n n.par o.k o.n).1,(giveN n n.par o.k o.n).2.1,if (giveN n n.par o.k o.n).2.2=true then 0 else 1))
 else if o.K=5 then(n,n.out.map (payM n),0)
 else hearN n o.m
def addrB (n:Nd) (o:Op5):Bool:= !decide (o.K=6)||(decide (o.m.T=n.id)&&nearB n o.m.F)
def wdoN (n:Nd) (o:Op5):Nd×List Mg×Int:=if opOk o&&addrB n o then actN n o else(n,[],3)
def doN (n:Nd) (o:Op5):Nd×List Mg×Int:=if ndOk n then wdoN n o else(n,[],3)
theorem doN_bad {n:Nd} {o:Op5} (h:ndOk n=false):doN n o=(n,[],3):=by unfold doN;rw [h];rfl
theorem doN_ok {n:Nd} {o:Op5} (h:ndOk n=true):doN n o=wdoN n o:=by unfold doN;rw [h];rfl
theorem ndOk_parts {n:Nd} (h:ndOk n=true):placeB n=true∧psOk n.pu=true∧toldB n=true∧smB n.next=true∧outsB n=true∧reqsB n=true:=by
 unfold ndOk at h
 simp only[Bool.and_eq_true] at h
 exact⟨h.1.1.1.1.1,h.1.1.1.1.2,h.1.1.1.2,h.1.1.2,h.1.2,h.2⟩
theorem reqs_asc {n:Nd} (h:reqsB n=true):n.reqs.Pairwise (fun s t=>s.no < t.no)∧n.reqs.length≤30∧(∀q∈n.reqs,reqB n q=true)∧0≤n.old∧n.old≤1000000000:=by
 unfold reqsB at h
 simp only[Bool.and_eq_true,decide_eq_true_eq] at h
 obtain⟨⟨h1,h2⟩,h3⟩:=h
 have h1':0≤n.old∧n.old≤1000000000:=by simpa [amB] using h1
 exact⟨asc_of_chk (f:=fun r:Rq=>r.no) h3,h2,chk_mem h3,h1'.1,h1'.2⟩
theorem outs_asc {n:Nd} (h:outsB n=true):n.out.Pairwise (fun s t=>s.i < t.i)∧n.out.length≤40∧(∀q∈n.out,outB n q=true):=by
 unfold outsB at h
 simp only[Bool.and_eq_true,decide_eq_true_eq] at h
 exact⟨asc_of_chk (f:=fun r:Snt=>r.i) h.2,h.1,chk_mem h.2⟩
theorem reqB_parts {n:Nd} {q:Rq} (h:reqB n q=true):n.old+1≤q.no∧q.no≤1000000000∧keyOk q.k.data.toList=true∧smB q.n=true∧0≤q.s∧q.s≤2:=by
 unfold reqB at h
 simp only[Bool.and_eq_true,decide_eq_true_eq] at h
 exact⟨h.1.1.1.1,h.1.1.1.2,h.1.1.2,h.1.2,h.2.1,h.2.2⟩
theorem reqI_le (l:List Rq) (no:Int):reqI l no≤l.length:=by
 unfold reqI
 exact(List.takeWhile_sublist _).length_le
theorem reqI_below (l:List Rq) (no:Int):∀i (hi:i < l.length),i < reqI l no→l[i].no < no:=by
 induction l with
 |nil=>intro i hi;simp at hi
 |cons x l ih=>
  intro i hi h
  by_cases hx:x.no < no
  ·cases i with
   |zero=>exact hx
   |succ i=>
    refine ih i (by simpa using hi) ?_
    unfold reqI at h ⊢
    rw [List.takeWhile_cons_of_pos (by simpa using hx)] at h
    simpa using h
  ·unfold reqI at h
   rw [List.takeWhile_cons_of_neg (by simpa using hx)] at h
   simp at h
theorem reqI_above {l:List Rq} {no:Int} (hp:l.Pairwise (fun s t=>s.no < t.no)):∀i (hi:i < l.length),reqI l no≤i→no≤l[i].no:=by
 induction l with
 |nil=>intro i hi;simp at hi
 |cons x l ih=>
  intro i hi h
  have hp':=List.pairwise_cons.1 hp
  by_cases hx:x.no < no
  ·unfold reqI at h
   rw [List.takeWhile_cons_of_pos (by simpa using hx)] at h
   simp only[List.length_cons] at h
   cases i with
   |zero=>omega
   |succ i=>exact ih hp'.2 i (by simpa using hi) (by unfold reqI;omega)
  ·cases i with
   |zero=>show no≤x.no;omega
   |succ i=>
    have hi':i < l.length:=by simpa using hi
    have:=hp'.1 l[i] (List.getElem_mem hi')
    show no≤l[i].no
    omega
theorem reqI_at {l:List Rq} {no:Int} (hp:l.Pairwise (fun s t=>s.no < t.no)) {i:Nat} (hi:i≤l.length) (h1:∀j (hj:j < l.length),j < i→l[j].no < no) (h2:∀j (hj:j < l.length),i≤j→no≤l[j].no):reqI l no=i:=by
 have hle:=reqI_le l no
 rcases Nat.lt_trichotomy (reqI l no) i with h|h|h
 ·have a:=h1 (reqI l no) (by omega) h
  have b:=reqI_above (no:=no) hp (reqI l no) (by omega) (Nat.le_refl _)
  omega
 ·exact h
 ·have a:=h2 i (by omega) (Nat.le_refl _)
  have b:=reqI_below l no i (by omega) h
  omega
theorem reqF_iff (l:List Rq) (no:Int):reqF l no=true↔∃h:reqI l no < l.length,l[reqI l no].no=no:=by
 unfold reqF
 by_cases h:reqI l no < l.length
 ·rw [List.getElem?_eq_getElem h]
  simp[h]
 ·rw [List.getElem?_eq_none (by omega)]
  simp[h]
theorem reqF_mem {l:List Rq} {no:Int} (hp:l.Pairwise (fun s t=>s.no < t.no)) {i:Nat} (hi:i < l.length) (h:l[i].no=no):reqI l no=i∧reqF l no=true:=by
 have e:reqI l no=i:=by
  refine reqI_at hp (by omega) (fun j hj hlt=>?_) (fun j hj hle=>?_)
  ·have:=List.pairwise_iff_getElem.1 hp j i hj hi hlt
   omega
  ·rcases Nat.lt_or_ge i j with hlt|hge
   ·have:=List.pairwise_iff_getElem.1 hp i j hi hj hlt
    omega
   ·have e:j=i:=by omega
    subst e
    omega
 refine⟨e,(reqF_iff l no).2 ⟨by omega,?_⟩⟩
 subst h
 simp[e]
theorem reqF_none {l:List Rq} {no:Int} (h:∀q∈l,q.no≠no):reqF l no=false:=by
 rw [Bool.eq_false_iff]
 intro hf
 obtain⟨hi,e⟩:=(reqF_iff l no).1 hf
 exact h _ (List.getElem_mem hi) e
end Mth
end Go.Proofs.YtdlokncalhopoaaGreat
