/- Parts. -/
import Derived.Test.YtacgbldlonoaaaaGreatDoorRa30
import Derived.Test.YtacgbldlonoaaaaGreatDoorRtZ1
namespace Go.Proofs.YtacgbldlonoaaaaGreatDoor
set_option maxHeartbeats 4000000
set_option maxRecDepth 100000
open Go.RowKit
open Mth
def asL (w:World) (e:Ending) (w':World):Prop:=∃v RL b,e= .returned (.tuple #[v,.bool b])∧RL.length≤1∧(∀p∈RL,p.k.size≤20)∧w'.ownsRow w.heap.size 143 4 v RL.length (GR.flat eG RL)∧Below w.heap.size w w'
theorem asO {P:Program} (w:World) {ops:Array Oper} {o:Oper} {a:Act} {K:Act→World→Prop} {Q:Exit→Act→World→Prop} {E:Prop} (hgd:o.guard=none) (s x:Operand) (t:TypeId)
 (ho:o.op= .call {callee:= .builtin .append,args:=#[s,x],argTypes:=#[t,t]})
 (base:Nat) (e:TypeId) (i:TypeInfo) (size:Nat) (ht:P.underlying t=some (.slice e)) (hi:P.info? e=some i)
 (v:Value) (n:Nat) (xs:List Value) (hs:a.eval s=v) (hown:w.ownsRow base e size v n xs)
 (ad:Option Addr) (c:Nat) (hx:a.eval x= .slice ad 0 c) (h:K (a.put o.dst v) w):
 if Region.wanted o (yielded ops a.tmps)=true then Oper.wp P o a w K Q else E:=by
 have hw:Region.wanted o (yielded ops a.tmps)=true:=by simp[Region.wanted,hgd]
 rw [if_pos hw];exact Lib.wp_append_run w s x t t ho v _ hs hx v w (lH w base t o.type e i size ht hi v n xs hown ad c) h
theorem atf (p:Pu) (n:Int) (w:World) (hpk:p.k.size≤20) (hn:1≤n∧n≤1000000000):
 Calls Tryz.prog 173 #[.slice none 0 0,wI p,.int .i64 n] w (asL w):=by
 unfold asL;have ku:=hide (fun w1=>lW none 0 [] w1 (by simp) (fun _ h=>by cases h) (GR.at_nil _ _));have hn2:decide (sG n 1 1000000000)=true:=decide_eq_true hn;have hok:ig []=true:=rfl;clear hn;obtain⟨pk,pm,pf,ps⟩:=p;dsimp only at hpk;go_enter Tryz.func173,Tryz.ntmps173
 go_wp2_with fail;refine(ku _).mono ?_;rintro e w1 ⟨rfl,hb1⟩;have uL:=hide (show w1.heap[w.heap.size]?=some (.cells #[.string pk,.int .i64 pm,.int .i64 pf,.int .i64 ps] 143 (0,0)) by rw [hb1.block w.heap.size (by simp)];exact heap_alloc_new w _);have HB1:=hide ((bZ w _).trans (hb1.mono (bZ w _).size));clear hb1;rw [hok];clear hok;go_wp2_with fail;refine(Kn _ _ _ _).mono ?_;rintro e w3 ⟨rfl,rfl⟩;rw [hn2];have hp0:w1.cell? ⟨w.heap.size,0,none⟩=some (.string pk):=by rw [cell_of_row w1 _ _ _ _ (0,0) (ah uL)];rfl
 go_upto_block 0 with fail;go_cut [8] (fun i wx=>i= .int .i64 0∧∃q,wx=w1.drewN q)
 case first=>
  go_wp2_with fail;go_loopw [8] (fun i wr=>∃q:Nat,i= .int .i64 0∧wr=w1.drewN q) (fun _ _=>0)
  case atStart=>exact⟨0,rfl,rfl⟩
  case round=>
   obtain⟨q,rfl,rfl⟩:=hrel;go_wp2_with fail;exact Zb7
 case rest=>
  obtain⟨rfl,q,rfl⟩:=hcut;go_upto_region 7 with fail;go_cut [51] (fun r wx=>r= .bool false∧∃q,wx=w1.drewN q)
  case first=>
   exact Zb7
  case rest=>
   obtain⟨rfl,q2,rfl⟩:=hcut;obtain⟨i0,hi,hz0,hz1,hz2⟩:=info_parts zL;go_upto_region 9 with fail;refine Fo.wp_at (fun V hV=>?_);have Jv:w.heap.size < V.heap.size:=by rw [hV];exact Fo.lt_of_blk uL
   have Fu:=hide (show Below w.heap.size w V by rw [hV];exact HB1.trans ⟨rfl,rfl,rfl,Nat.le_refl _,fun _ _=>rfl⟩);have hblk:V.heap[w.heap.size]?=some (.cells #[.string pk,.int .i64 pm,.int .i64 pf,.int .i64 ps] 143 (0,0)):=by rw [hV];exact uL
   obtain⟨⟨c0,c1,c2,c3⟩,_⟩:=eX hblk;have yY:=hide (fun X (hb:Below V.heap.size V X)=>EA none 0 [] X (by simp) (fun _=>⟨rfl,rfl⟩) (GR.at_nil _ _));have HCA:=hide (fun X=>EA none 0 [] X (by simp) (fun _=>⟨rfl,rfl⟩) (GR.at_nil _ _));have hnw:w.heap.size≠V.heap.size:=by omega
   have hmw:V.heap.size≠w.heap.size:=by omega
   clear hV hblk hp0 ku uL
   go_region_held_law (fun w'=>w'.cell? ⟨w.heap.size,0,none⟩=some (.string pk)∧w'.cell? ⟨w.heap.size,1,none⟩=some (.int .i64 pm)∧w'.cell? ⟨w.heap.size,2,none⟩=some (.int .i64 pf)∧w'.cell? ⟨w.heap.size,3,none⟩=some (.int .i64 ps)) (go_keep)
    (first
     |((go_at_call 114);(refine(yY _ (by exact⟨rfl,rfl,rfl,by simp,fun k hk=>by first|rfl|exact Below.heap_alloc _ _ _ hk⟩)).mono ?_);(rintro e w4 ⟨vc,rfl,hv4,uZ,hb4⟩);(have hs4:=hb4.size);(try simp at hs4);(have nK:=hide (show Below V.heap.size V w4 from Below.trans (b:=_) (by exact⟨rfl,rfl,rfl,by simp,fun k hk=>by first|rfl|exact Below.heap_alloc _ _ _ hk⟩) (hb4.mono (by simp))));(have O9:=hide (own_lower (b':=V.heap.size) uZ (by simp)));(first|(guard_hyp hs4:V.heap.size+1≤w4.heap.size;have HN4:=hide (Fo.one_block (show Below (V.alloc (.cells #[.string pk,.int .i64 pm,.int .i64 pf,.int .i64 ps] 143)).heap.size (V.alloc (.cells #[.string pk,.int .i64 pm,.int .i64 pf,.int .i64 ps] 143)) w4 from⟨hb4.os,hb4.tape,hb4.output,hb4.size,hb4.block⟩)).1)|skip);(have d0:=(nK.cell (p:=⟨w.heap.size,0,none⟩) Jv).trans c0);(have d1:=(nK.cell (p:=⟨w.heap.size,1,none⟩) Jv).trans c1);(have d2:=(nK.cell (p:=⟨w.heap.size,2,none⟩) Jv).trans c2);(have d3:=(nK.cell (p:=⟨w.heap.size,3,none⟩) Jv).trans c3);(have hn4:w.heap.size≠w4.heap.size:=by omega);(have hm4:w4.heap.size≠w.heap.size:=by omega);(clear hb4 uZ hv4))
     |((guard_hyp hs4:V.heap.size+1≤w4.heap.size);(refine lI _ rfl (.tmp 57) (.tmp 59) 25 rfl V.heap.size 143 i0 (.agg #[.string ByteArray.empty,.int .i64 0,.int .i64 0,.int .i64 0]) 4 40 Tryz.underlying25 hi hz0 hz1 hz2 rfl (by decide) vc 0 [] (by simp[Act.eval]) O9 ⟨V.heap.size,0,none⟩ 1 1 (eG ⟨pk,pm,pf,ps⟩) (by simp[Act.eval]) rfl (World.news_of_block HN4) (CX ⟨pk,pm,pf,ps⟩) (by unfold maxLen;omega) (by omega) nK.size ?_);(intro v5 w5 hown5 hgr5 zD);(have CB:=hide hown5);(have HV5:=hide (show v5≠ .slice none 0 0 by first|exact zD|exact fun h=>absurd (zD.1 h).2 (by decide)));(have jJ:=hide (show Below V.heap.size V w5 from nK.trans (oV hgr5 (fun k e=>(O9.lt k e).1) nK.size)));(have e0:=(jJ.cell (p:=⟨w.heap.size,0,none⟩) Jv).trans c0);(have e1:=(jJ.cell (p:=⟨w.heap.size,1,none⟩) Jv).trans c1);(have e2:=(jJ.cell (p:=⟨w.heap.size,2,none⟩) Jv).trans c2);(have e3:=(jJ.cell (p:=⟨w.heap.size,3,none⟩) Jv).trans c3);(clear hown5 hgr5 zD))
     |((guard_hyp hs4:V.heap.size≤w4.heap.size);(refine lI _ rfl (.tmp 57) (.tmp 59) 25 rfl V.heap.size 143 i0 (.agg #[.string ByteArray.empty,.int .i64 0,.int .i64 0,.int .i64 0]) 4 40 Tryz.underlying25 hi hz0 hz1 hz2 rfl (by decide) vc 0 [] (by simp[Act.eval]) (O9.alloc _) ⟨w4.heap.size,0,none⟩ 1 1 (eG ⟨pk,pm,pf,ps⟩) (by simp[Act.eval]) rfl (World.news_of_block (heap_alloc_new w4 _)) (CX ⟨pk,pm,pf,ps⟩) (by unfold maxLen;omega) (by omega) (Nat.le_trans nK.size (by simp)) ?_);(intro v5 w5 hown5 hgr5 zD);(have CB:=hide hown5);(have HV5:=hide (show v5≠ .slice none 0 0 by first|exact zD|exact fun h=>absurd (zD.1 h).2 (by decide)));(have jJ:=hide (show Below V.heap.size V w5 from(nK.alloc nK.size _).trans (oV hgr5 (fun k e=>(O9.lt k e).1) (Nat.le_trans nK.size (by simp)))));(have e0:=(jJ.cell (p:=⟨w.heap.size,0,none⟩) Jv).trans c0);(have e1:=(jJ.cell (p:=⟨w.heap.size,1,none⟩) Jv).trans c1);(have e2:=(jJ.cell (p:=⟨w.heap.size,2,none⟩) Jv).trans c2);(have e3:=(jJ.cell (p:=⟨w.heap.size,3,none⟩) Jv).trans c3);(clear hown5 hgr5 zD))
     |((refine asO _ rfl (.tmp 60) (.tmp 61) 25 rfl V.heap.size 143 i0 4 Tryz.underlying25 hi v5 (0+1) ([]++eG ⟨pk,pm,pf,ps⟩) (by simp[Act.eval,Act.put]) CB none 0 (by simp[Act.eval,Act.put]) ?_);(have hown6:w5.ownsRow V.heap.size 143 4 v5 [(⟨pk,pm,pf,ps⟩:Pu)].length (GR.flat eG [(⟨pk,pm,pf,ps⟩:Pu)]):=(by rw [GR.flat_one];exact CB));(obtain⟨a6,cap6,rfl,anJ⟩:=GR.own_at aZ hown6);(have HO6:=hide hown6);(have HT6:=hide anJ);(clear hown6 anJ))
     |fail)
   all_goals
    have ach:=hide (Fu.trans (jJ.mono (by omega)))
    have CQ:=hide (lW a6 cap6 [(⟨pk,pm,pf,ps⟩:Pu)] w5 (by simp) (fun q hq=>by rw [List.mem_singleton] at hq;subst hq;show pk.size≤maxLen;unfold maxLen;omega) HT6)
    clear d0 d1 d2 d3 e0 e1 e2 e3 c0 c1 c2 c3 yY
    go_wp2_with fail
    refine CQ.mono ?_
    rintro e w7 ⟨rfl,tJ⟩
    have Cq:=hide (ach.trans (tJ.mono ach.size))
    have HO7:=hide (own_lower (b':=w.heap.size) (HO6.kept (row:=none) ⟨tJ.os,tJ.tape,tJ.output,tJ.size,fun k hk _=>tJ.block k hk⟩ (SY _)) (by omega))
    clear tJ CQ
    cases hps:ig [(⟨pk,pm,pf,ps⟩:Pu)]
    ·have HCX:=hide (HCA w7);clear hps HCA;go_wp2_with fail;refine HCX.mono ?_;rintro e w8 ⟨v8,rfl,hv8,GN,Bd⟩;have HO8:=hide (own_lower (b':=w.heap.size) GN Cq.size);have Dz:=hide (Cq.trans (Bd.mono Cq.size));clear GN Bd hv8;go_wp2_with fail;exact bodyPost_ret (v:= .tuple #[v8,.bool false]) (by simp[results,Tryz.results173,go_sem]) rfl ⟨v8,[],false,rfl,by simp,(fun _ h=>by cases h),HO8,Dz⟩
    ·clear hps HCA;go_wp2_with fail;exact bodyPost_ret (v:= .tuple #[.slice a6 1 cap6,.bool true]) (by simp[results,Tryz.results173,go_sem]) rfl ⟨_,[(⟨pk,pm,pf,ps⟩:Pu)],true,rfl,by simp,(fun q hq=>by rw [List.mem_singleton] at hq;subst hq;exact hpk),HO7,Cq⟩
theorem atw (key:ByteArray) (df n:Int) (w:World) (hkey:key.size≤20) (hd2:df=1) (hn:1≤n∧n≤30):
 Calls Tryz.prog 115 #[.slice none 0 0,.string key,.int .i64 0,.int .i64 df,.int .i64 0,.int .i64 n] w (asL w):=by
 subst hd2;obtain⟨hn1,hn2⟩:=hn;have CP:=hide (qX none 0 [] key w (by simp) (GR.at_nil _ _));have Xd:=hide (fun w1=>atf ⟨key,0,n,0⟩ n w1 hkey ⟨hn1,by omega⟩);have hAm:decide (sG n 0 1000000000)=true:=decide_eq_true ⟨by omega,by omega⟩;rw [show aF [] key=⟨key,0,0,0⟩ from rfl] at CP;unfold asL at *;go_enter Tryz.func115,Tryz.ntmps115
 go_wp2_with fail;refine CP.mono ?_;rintro e w1 ⟨rfl,hb1⟩;have HB1:=hide hb1;clear hb1 CP;have z1:(0:Int)*n=0:=Int.zero_mul n;have z2:(1:Int)*n=n:=Int.one_mul n;have z3:(0:Int)+n=n:=Int.zero_add n;go_wp2_with (go_at_call 62;refine(rJ _ _).mono ?_;rintro e w2 ⟨rfl,rfl⟩;rw [hAm])
 first
  |refine(Xd _).mono ?_
  |(simp only[z1,z2,z3,Int.add_zero];refine(Xd _).mono ?_)
 rintro e w3 ⟨v,RL,b,rfl,hl,hks,hown,hb3⟩;have HB3:=hide ((HB1.alloc HB1.size _).trans (hb3.mono (by have:=HB1.size;simp;omega)));have AQ:=hide (own_lower (b':=w.heap.size) hown (by have:=HB1.size;simp;omega));have HV:=hide hks;clear hb3 hown hks;go_wp2_with fail;exact bodyPost_ret (v:= .tuple #[v,.bool b]) (by simp[results,Tryz.results115,go_sem]) rfl ⟨v,RL,b,rfl,hl,HV,AQ,HB3⟩
theorem asJ (key:ByteArray) (n:Int) (w:World) (hkey:key.size≤20) (hn:1≤n∧n≤30):
 Calls Tryz.prog 98 #[.slice none 0 0,.string key,.int .i64 n] w (asL w):=by
 have H:=hide (atw key 1 n w hkey rfl hn);unfold asL at *;go_enter Tryz.func98,Tryz.ntmps98
 go_wp2_with fail;refine H.mono ?_;rintro e w1 ⟨v,RL,b,rfl,hl,hks,hown,hb⟩;have HV:=hide hks;have HO:=hide hown;have HB:=hide hb;clear hown hb hks;go_wp2_with fail;exact bodyPost_ret (v:= .tuple #[v,.bool b]) (by simp[results,Tryz.results98,go_sem]) rfl ⟨v,RL,b,rfl,hl,HV,HO,HB⟩
end Go.Proofs.YtacgbldlonoaaaaGreatDoor
