/- Parts. -/
import Derived.Test.YtppmcficiphgdaaGreatDoorQa1
import Derived.Test.YtppmcficiphgdaaGreatDoorQb2
import Derived.Test.YtppmcficiphgdaaGreatDoorQb3
import Derived.Test.YtppmcficiphgdaaGreatDoorQbZ3
namespace Go.Proofs.YtppmcficiphgdaaGreatDoor
set_option maxHeartbeats 8000000
set_option maxRecDepth 100000
open Go.RowKit
open Mth
def reqJ (l:List Rq) (no:Int):Int:=if reqF l no=true then(reqI l no:Int) else -1
theorem specReq (n:Nd) (A:Ads) (no:Int) (w:World) (hl:n.reqs.length≤1000) (hp:n.reqs.Pairwise (fun s t=>s.no < t.no)) (ha:ReqAt w A.r n.reqs):
 Calls Tryz.prog 131 #[ndv n A,.int .i64 no] w fun e w'=>e= .returned (.int .i64 (reqJ n.reqs no))∧Below w.heap.size w w':=by
 have HA:=hide ha;have HP:=hide hp;have HB0:=hide (below_one w (.cells (ndc n A) 30));have HN0:=hide (heap_alloc_new w (.cells (ndc n A) 30));obtain⟨R,hR⟩:∃R,reqJ n.reqs no=R:=⟨_,rfl⟩;have HR:=hide hR;rw [hR];clear ha hp hR;go_enter Tryz.func131,Tryz.ntmps131
 go_wp2_with fail;go_loopw [5] (fun i wr=>∃k:Nat,k≤n.reqs.length∧i= .int .i64 k∧(∀j (hj:j < n.reqs.length),j < k→n.reqs[j].no≠no)∧Below (w.alloc (.cells (ndc n A) 30)).heap.size (w.alloc (.cells (ndc n A) 30)) wr) (fun i _=>n.reqs.length - (intOf i).toNat)
 case atStart=>exact⟨0,Nat.zero_le _,rfl,fun j _ h=>by omega,Below.refl _ _⟩
 case round=>
  obtain⟨k,hk,rfl,hno,hbw⟩:=hrel;have HNO:=hide hno;have HNr:=hide (obj_step HN0 hbw);have HBr:=hide (HB0.trans (hbw.mono HB0.size));have HBW:=hide hbw;obtain⟨c0,c1,c2,c3,c4,c5,c6,c7,c8⟩:=nine HNr;have hnl:=obj_lt HNr;clear hno hbw;by_cases hlt:k < n.reqs.length
  ·have hltI:(k:Int) < (n.reqs.length:Int):=by omega
   obtain⟨g,off,e0,hg,q0,q1,q2,q3⟩:=ReqAt.four (GR.At.below HA HBr) k hlt;rw [e0] at c8;clear e0;by_cases he:n.reqs[k].no=no
   ·have HF:=hide (reqF_mem HP hlt he)
    have hRk:R=k:=by
     rw [←unhide HR];unfold reqJ;rw [if_pos (unhide HF).2,(unhide HF).1]
    subst hRk;rw [he] at q0;have hq:(no == no)=true:=by simp
    go_wp2_with fail;go_ret;exact⟨rfl,HBr⟩
   ·have hq:(n.reqs[k].no == no)=false:=by simpa using he
    have HE:=hide he;clear he;generalize hx:n.reqs[k].no=x0 at *;have HX:=hide hx;clear hx;go_wp2_with fail;go_roundw
    case rel=>exact⟨k+1,by omega,by go_num,fun j hj hjk=>by
     by_cases e:j=k
     ·subst e;rw [unhide HX];exact HE
     ·exact HNO j hj (by omega),HBW⟩
    case measure=>simp[intOf];omega
  ·have hke:k=n.reqs.length:=by omega
   subst hke;have hnlt:decide ((n.reqs.length:Int) < (n.reqs.length:Int))=false:=by simp
   have hRk:R= -1:=by
    rw [←unhide HR];unfold reqJ;rw [if_neg (by rw [reqF_none (fun q hq=>by obtain⟨j,hj,rfl⟩:=List.mem_iff_getElem.1 hq;exact unhide HNO j hj hj)];simp)]
   subst hRk;go_wp2_with fail;go_ret;exact⟨rfl,HBr⟩
theorem GR.own_ati {α:Type} {enc:α→List Value} {sz:Nat} {w:World} {B:Nat} {t:TypeId} {a:Option Addr} {c:Nat} {l:List α} (hs:∀x,(enc x).length=sz) (h:w.ownsRow B t sz (.slice a l.length c) l.length (GR.flat enc l)):GR.At enc sz w a l:=by
 obtain⟨a',c',e,h'⟩:=GR.own_at hs h;simp only[Value.slice.injEq] at e;rw [e.1];exact h'
def Apart (c:Nat→Nat) (w w':World):Prop:=∀x,x < w.heap.size→6 < c x→w'.heap[x]?=w.heap[x]?
theorem Apart.of_below {c:Nat→Nat} {w w':World} (h:Below w.heap.size w w'):Apart c w w':=fun x hx _=>h.block x hx
theorem Apart.keeps {c:Nat→Nat} {w X W':World} {F:List Nat} (h:Apart c w X) (hs:w.heap.size≤X.heap.size) (hk:KeepsL F X W') (hF:∀x∈F,w.heap.size≤x∨c x≤6):Apart c w W':=fun x hx hc=>(hk.block x (by omega) (fun hm=>by have:=hF x hm;omega)).trans (h x hx hc)
theorem Apart.step {c:Nat→Nat} {w X W':World} (h:Apart c w X) (hs:w.heap.size≤X.heap.size) (hb:Below X.heap.size X W'):Apart c w W':=fun x hx hc=>(hb.block x (by omega)).trans (h x hx hc)
theorem Apart.grown {c:Nat→Nat} {w X W':World} {row:Option Nat} (h:Apart c w X) (hs:w.heap.size≤X.heap.size) (hg:X.grownBy W' row) (hr:∀x,row=some x→x < w.heap.size→c x≤6):Apart c w W':=fun x hx hc=>(hg.block x (by omega) (fun hm=>by have:=hr x hm.symm hx;omega)).trans (h x hx hc)
def Out (c:Nat→Nat) (w W' W'':World):Prop:=∃F,KeepsL F W' W''∧∀x∈F,x < w.heap.size∧6 < c x
theorem Out.refl {c:Nat→Nat} {w W':World}:Out c w W' W':=⟨[],KeepsL.refl _ _,fun x hx=>by simp at hx⟩
theorem KC.out {c:Nat→Nat} {w W' W'':World} (h9:∀x,6 < c x→c x=9) (h:Out c w W' W''):KC (newC w.heap.size 9 c) 9 W' W'':=by
 obtain⟨F,hk,hF⟩:=h;exact KC.keeps hk (fun x hx=>by rw [newC_old (hF x hx).1];exact h9 x (hF x hx).2)
def GivesR (w:World) (B:Nat) (c:Nat→Nat) (R:Nd×Int) (e:Ending) (w':World):Prop:=∃A',e= .returned (.tuple #[ndv R.1 A',.int .i64 R.2])∧(∀W'',Out c w w' W''→NodeAt W'' A' R.1)∧Below B w w'∧Apart c w w'
theorem NO.nine {w:World} {B:Nat} {n:Nd} {A:Ads} {G:Blks} {c:Nat→Nat} (h:NO w B n A G c) (hB:B≤w.heap.size):NO w B n A G (newC w.heap.size 9 c):=h.recol hB (fun _ hx=>newC_old hx)
theorem specRel_stale (n:Nd) (A:Ads) (G:Blks) (c:Nat→Nat) (no:Int) (w:World) (B:Nat) (hB:B≤w.heap.size) (h9:∀x,6 < c x→c x=9) (hs:no≤n.old) (h:NO w B n A G c):Calls Tryz.prog 60 #[ndv n A,.int .i64 no] w (GivesR w B c (releaseN n no)):=by
 have hR:releaseN n no=(n,2):=if_pos hs;rw [hR];clear hR;unfold GivesR;have H9:=hide h9;clear h9;have hbw0:=below_one w (.cells (ndc n A) 30);open Sb270 in exact Yb84
theorem specRel_none (n:Nd) (A:Ads) (G:Blks) (c:Nat→Nat) (no:Int) (w:World) (B:Nat) (hB:B≤w.heap.size) (h9:∀x,6 < c x→c x=9) (hok:reqsB n=true) (hs:¬no≤n.old) (hf:reqF n.reqs no=false) (h:NO w B n A G c):Calls Tryz.prog 60 #[ndv n A,.int .i64 no] w (GivesR w B c (releaseN n no)):=by
 have hR:releaseN n no=(n,1):=by unfold releaseN;rw [if_neg hs,if_pos hf]
 have hJ:reqJ n.reqs no= -1:=by unfold reqJ;rw [if_neg (by rw [hf];simp)]
 rw [hR];clear hR hf;have hp:=reqs_asc hok;have HRQ:=hide (fun W1 (ha:ReqAt W1 A.r n.reqs)=>specReq n A no W1 (by omega) hp.1 ha);rw [hJ] at HRQ;clear hp hok;unfold GivesR;have H9:=hide h9;clear h9;have hbw0:=below_one w (.cells (ndc n A) 30);open Sb269 in exact Yb84
theorem specRel_ref (n:Nd) (a_k a_p a_o a_s a_r:Option Addr) (a_ck a_cp a_co a_cs a_cr:Nat) (G:Blks) (c:Nat→Nat) (no:Int) (w:World) (B:Nat) (hB:B≤w.heap.size) (h9:∀x,6 < c x→c x=9) (i:Nat) (hi:i < n.reqs.length) (hok:reqsB n=true) (hs:¬no≤n.old) (hJ:reqJ n.reqs no=i) (hR:releaseN n no=(n,1)) (hst:n.reqs[i].s=1) (h:NO w B n (⟨a_k,a_p,a_o,a_s,a_r,a_ck,a_cp,a_co,a_cs,a_cr⟩:Ads) G c):Calls Tryz.prog 60 #[ndv n (⟨a_k,a_p,a_o,a_s,a_r,a_ck,a_cp,a_co,a_cs,a_cr⟩:Ads),.int .i64 no] w (GivesR w B c (releaseN n no)):=by
 rw [hR];open Sb34 in exact Yb6
theorem specRel_again (n:Nd) (a_k a_p a_o a_s a_r:Option Addr) (a_ck a_cp a_co a_cs a_cr:Nat) (G:Blks) (c:Nat→Nat) (no:Int) (w:World) (B:Nat) (hB:B≤w.heap.size) (h9:∀x,6 < c x→c x=9) (i:Nat) (hi:i < n.reqs.length) (hok:reqsB n=true) (hs:¬no≤n.old) (hJ:reqJ n.reqs no=i) (hR:releaseN n no=(n,0)) (hst:n.reqs[i].s=2) (h:NO w B n (⟨a_k,a_p,a_o,a_s,a_r,a_ck,a_cp,a_co,a_cs,a_cr⟩:Ads) G c):Calls Tryz.prog 60 #[ndv n (⟨a_k,a_p,a_o,a_s,a_r,a_ck,a_cp,a_co,a_cs,a_cr⟩:Ads),.int .i64 no] w (GivesR w B c (releaseN n no)):=by
 rw [hR];open Sb33 in exact Yb6
theorem specRel_let_false (n:Nd) (a_k a_p a_o a_s a_r:Option Addr) (a_ck a_cp a_co a_cs a_cr:Nat) (G:Blks) (c:Nat→Nat) (no:Int) (w:World) (B:Nat) (hB:B≤w.heap.size) (h9:∀x,6 < c x→c x=9) (i:Nat) (hi:i < n.reqs.length) (hz:NdSz n 1048576) (hP:∃g,a_p=some ⟨g,0,none⟩) (hPc:n.pu.length≤a_cp) (hok:reqsB n=true) (hs:¬no≤n.old) (hJ:reqJ n.reqs no=i) (RL:List Pu) (hR:releaseN n no=(n,1)) (hst:n.reqs[i].s=0) (hu:addP n.pu n.reqs[i].k 0 1 (-1) n.reqs[i].n=(RL,false)) (h:NO w B n (⟨a_k,a_p,a_o,a_s,a_r,a_ck,a_cp,a_co,a_cs,a_cr⟩:Ads) G c):Calls Tryz.prog 60 #[ndv n (⟨a_k,a_p,a_o,a_s,a_r,a_ck,a_cp,a_co,a_cs,a_cr⟩:Ads),.int .i64 no] w (GivesR w B c (releaseN n no)):=by
 rw [hR];obtain⟨gp,hgp⟩:=hP;subst hgp;have hiI:(i:Int) < (n.reqs.length:Int):=by omega
 have HST:=hide hst;open Sb36 in exact Yb7
theorem specRel_let_true (n:Nd) (a_k a_p a_o a_s a_r:Option Addr) (a_ck a_cp a_co a_cs a_cr:Nat) (G:Blks) (c:Nat→Nat) (no:Int) (w:World) (B:Nat) (hB:B≤w.heap.size) (h9:∀x,6 < c x→c x=9) (i:Nat) (hi:i < n.reqs.length) (hz:NdSz n 1048576) (hP:∃g,a_p=some ⟨g,0,none⟩) (hPc:n.pu.length≤a_cp) (hok:reqsB n=true) (hs:¬no≤n.old) (hJ:reqJ n.reqs no=i) (RL:List Pu) (hR:releaseN n no=(setReqs (setPu n RL) (n.reqs.set i (relQ n.reqs[i])),0)) (hst:n.reqs[i].s=0) (hu:addP n.pu n.reqs[i].k 0 1 (-1) n.reqs[i].n=(RL,true)) (h:NO w B n (⟨a_k,a_p,a_o,a_s,a_r,a_ck,a_cp,a_co,a_cs,a_cr⟩:Ads) G c):Calls Tryz.prog 60 #[ndv n (⟨a_k,a_p,a_o,a_s,a_r,a_ck,a_cp,a_co,a_cs,a_cr⟩:Ads),.int .i64 no] w (GivesR w B c (releaseN n no)):=by
 rw [hR];obtain⟨gp,hgp⟩:=hP;subst hgp;have hiI:(i:Int) < (n.reqs.length:Int):=by omega
 have HST:=hide hst;open Sb35 in exact Yb7
theorem specRelease (n:Nd) (A:Ads) (G:Blks) (c:Nat→Nat) (no:Int) (w:World) (B:Nat) (hB:B≤w.heap.size) (h9:∀x,6 < c x→c x=9) (hz:NdSz n 1048576) (hP:∃g,A.p=some ⟨g,0,none⟩) (hPc:n.pu.length≤A.cp) (hok:reqsB n=true) (h:NO w B n A G c):Calls Tryz.prog 60 #[ndv n A,.int .i64 no] w (GivesR w B c (releaseN n no)):=by
 by_cases hs:no≤n.old
 ·exact specRel_stale n A G c no w B hB h9 hs h
 cases hf:reqF n.reqs no with
 |false=>exact specRel_none n A G c no w B hB h9 hok hs hf h
 |true=>
  have hil:=((reqF_iff n.reqs no).1 hf).1
  have hgd:n.reqs.getD (reqI n.reqs no) default=n.reqs[reqI n.reqs no]:=by rw [List.getD_eq_getElem?_getD,List.getElem?_eq_getElem hil];rfl
  have hJ:reqJ n.reqs no=(reqI n.reqs no:Nat):=by unfold reqJ;rw [if_pos hf]
  obtain⟨_,_,_,_,b1,b2⟩:=reqB_parts ((reqs_asc hok).2.2.1 _ (List.getElem_mem hil))
  obtain⟨ak,ap,ao,az,ar,ck,cp,co,cs,cr⟩:=A
  by_cases s1:n.reqs[reqI n.reqs no].s=1
  ·exact specRel_ref n ak ap ao az ar ck cp co cs cr G c no w B hB h9 _ hil hok hs hJ (by unfold releaseN;rw [if_neg hs,if_neg (by rw [hf];simp),hgd,if_pos s1]) s1 h
  by_cases s2:n.reqs[reqI n.reqs no].s=2
  ·exact specRel_again n ak ap ao az ar ck cp co cs cr G c no w B hB h9 _ hil hok hs hJ (by unfold releaseN;rw [if_neg hs,if_neg (by rw [hf];simp),hgd,if_neg s1,if_pos s2]) s2 h
  obtain⟨R,hR⟩:∃R,addP n.pu n.reqs[reqI n.reqs no].k 0 1 (-1) n.reqs[reqI n.reqs no].n=R:=⟨_,rfl⟩
  obtain⟨RL,b⟩:=R
  have hrel:releaseN n no=if b=true then(setReqs (setPu n RL) (n.reqs.set (reqI n.reqs no) (relQ n.reqs[reqI n.reqs no])),0) else(n,1):=by
   unfold releaseN;rw [if_neg hs,if_neg (by rw [hf];simp),hgd,if_neg s1,if_neg s2,hR]
  cases b with
  |false=>exact specRel_let_false n ak ap ao az ar ck cp co cs cr G c no w B hB h9 _ hil hz hP hPc hok hs hJ RL (by rw [hrel];simp) (by omega) hR h
  |true=>exact specRel_let_true n ak ap ao az ar ck cp co cs cr G c no w B hB h9 _ hil hz hP hPc hok hs hJ RL (by rw [hrel];simp) (by omega) hR h
end Go.Proofs.YtppmcficiphgdaaGreatDoor
