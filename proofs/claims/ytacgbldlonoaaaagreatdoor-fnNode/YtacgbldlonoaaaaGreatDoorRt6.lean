/- Parts. -/
import Derived.Test.YtacgbldlonoaaaaGreatDoorRt4
import Derived.Test.YtacgbldlonoaaaaGreatDoorRt5
namespace Go.Proofs.YtacgbldlonoaaaaGreatDoor
set_option maxHeartbeats 8000000
set_option maxRecDepth 100000
open Go.RowKit
open Mth
theorem auE (par:Int):eH (Io 1 par [2,3]).1 1048576∧(Io 1 par [2,3]).1.pu=[]:=by
 unfold Io;split
 ·refine⟨⟨by simp[dw],by simp[dw],by simp[dw],?_,by simp[dw],fun x hx=>by simp[dw] at hx,fun x hx=>by simp[dw] at hx,fun x hx=>?_,fun x hx=>by simp[dw] at hx⟩,rfl⟩
  ·show(List.map _ (Dt (iM (dw 1 par [2,3] [])))).length≤1048576
   rw [List.length_map,kQ];unfold iM dw;dsimp only;split<;>simp
  ·obtain⟨y,_,rfl⟩:=List.mem_map.1 hx;simp
 ·exact⟨⟨by simp[mV],by simp[mV],by simp[mV],by simp[mV],by simp[mV],fun x hx=>by simp[mV] at hx,fun x hx=>by simp[mV] at hx,fun x hx=>by simp[mV] at hx,fun x hx=>by simp[mV] at hx⟩,rfl⟩
theorem aug (w:World) (zs:List Int) (t:TypeId):dK (w.alloc (.cells (zs.map (Value.int .i64)).toArray t)) (some ⟨w.heap.size,0,none⟩) zs:=fun i hi=>⟨w.heap.size,0,rfl,by simp,fun j hj=>by
 have e:j=0:=by omega
 subst e
 have h:=asq w zs t i hi
 rw [show 0+(i*1+0)=i by omega,h]
 rfl⟩
theorem NSt.make {w w2 V:World} {c:Nat} {n:Nd} {A:bE} (hcl:c < w.heap.size) (hc:Cur w2 c) (hk:Keeps c w w2) (hres:w2.heap[w.heap.size]?=some (.cells iO 30 (0,0))) {L:Nat} (hL:w.heap.size < L)
 (hr:∃gk gs I col,RMc w2 A n gk gs I col∧∀x,x < L→col x=0) (hz:eH n 1048576)
 (hV:V=w2.alloc (.cells (fZ n A) 30)):NSt w c w2.heap.size n A V:=by
 have hr2:=aA hres;have hbl:Below w2.heap.size w2 V:=by rw [hV];exact au w2 _
 refine⟨hc.keep_below hbl,hk.trans (Keeps.of_below hbl),hcl,hr2,by rw [hbl.block _ hr2];exact hres,?_,?_,hz⟩
 ·rw [hV];exact heap_alloc_new w2 _
 ·obtain⟨gk,gs,I,col,h,h0⟩:=hr;have hsm:∀x,x < w2.heap.size→(if x < w2.heap.size then col x else 0)=col x:=fun x hx=>if_pos hx
  have Mf:KC col 9 w2 V:=KC.of_below hbl;have lk:=alM h.k;obtain⟨l4,l5⟩:=nI h.s.w;refine⟨gk,gs,I,fun x=>if x < w2.heap.size then col x else 0,⟨Mf.w h.k h.ck (by omega),asT Mf h.p h.cp (by omega),Mf.own h.o h.co (by omega),Mf.seenQ h.s h.c4 h.ci (by omega) (by omega),Mf.own h.r h.cr (by omega),fun x hx=>(hsm x (lk x hx)).trans (h.ck x hx),fun x hx hp=>?_,fun x hx=>(hsm x (h.o.lt x hx).2).trans (h.co x hx),fun x hx=>(hsm x (l4 x hx)).trans (h.c4 x hx),fun x hx=>(hsm x (l5 x hx)).trans (h.ci x hx),fun x hx=>(hsm x (h.r.lt x hx).2).trans (h.cr x hx),h.ni⟩,fun x hx=>?_,if_neg (Nat.lt_irrefl _)⟩
  ·obtain⟨g',off,e,hl,_⟩:=h.p 0 hp;have e2:x=g':=by rw [e] at hx;simpa using hx.symm
   exact(hsm x (by omega)).trans (h.cp x hx hp)
  ·exact(hsm x (by omega)).trans (h0 x (by omega))
def asD:Option Value→Nat
 |some (.slice _ n _)=>50 - n
 |_=>0
theorem NSt.did {w W W5:World} {c g:Nat} {n n':Nd} {A A':bE} (h:NSt w c g n A W) (hb:Below W.heap.size W W5) (hr:∀W'',Dx W W5 W''→RM W'' A' n') (hz:eH n' 1048576):
 NSt w c g n' A' (GR.setW W5 g 0 [.int .i64 n'.id,.int .i64 n'.par,.slice A'.k n'.kids.length A'.ck,.int .i64 n'.next,.slice A'.p n'.pu.length A'.cp,.slice A'.o n'.out.length A'.co,.slice A'.s n'.seen.length A'.cs,.int .i64 n'.old,.slice A'.r n'.reqs.length A'.cr]):=by
 have hgl:=aA h.own;have hrl:=aA h.res;have h5:=h.draw (h.cur.keep_below hb) (Keeps.of_below hb);have hz5:=hb.size;have hkp:=aL (g:=g) [.int .i64 n'.id,.int .i64 n'.par,.slice A'.k n'.kids.length A'.ck,.int .i64 n'.next,.slice A'.p n'.pu.length A'.cp,.slice A'.o n'.out.length A'.co,.slice A'.s n'.seen.length A'.cs,.int .i64 n'.old,.slice A'.r n'.reqs.length A'.cr] W5 0;refine h5.far (hkp.below (fun x hx=>by have:x=g:=(by simpa using hx);have:=h.glt;omega) (by omega)) ?_ ?_ hz
 ·exact GR.setW_blk [.int .i64 n'.id,.int .i64 n'.par,.slice A'.k n'.kids.length A'.ck,.int .i64 n'.next,.slice A'.p n'.pu.length A'.cp,.slice A'.o n'.out.length A'.co,.slice A'.s n'.seen.length A'.cs,.int .i64 n'.old,.slice A'.r n'.reqs.length A'.cr] (o:=0) (xs:=[.int .i64 n.id,.int .i64 n.par,.slice A.k n.kids.length A.ck,.int .i64 n.next,.slice A.p n.pu.length A.cp,.slice A.o n.out.length A.co,.slice A.s n.seen.length A.cs,.int .i64 n.old,.slice A.r n.reqs.length A.cr]) h5.own
 ·obtain⟨gk,gs,I,col,h1,h2⟩:=Dx.rm hr;exact⟨gk,gs,I,col,h1.kc (k:=0) (KC.setW _ (h2 g hgl)) (.inl rfl),fun x hx=>h2 x (by omega),h2 g hgl⟩
theorem asR {P:Program} (w:World) {ops:Array Oper} {o:Oper} {a:Act} {K:Act→World→Prop} {Q:Exit→Act→World→Prop} {E:Prop} (hgd:o.guard=none) (s x:Operand) (t:TypeId)
 (ho:o.op= .call {callee:= .builtin .append,args:=#[s,x],argTypes:=#[t,t]}) (vs vx:Value) (hs:a.eval s=vs) (hx:a.eval x=vx) (v':Value) (w':World)
 (hr:(Builtin.append_ #[t,t] o.type #[vs,vx]).run P w= .ok v' w') (h:K (a.put o.dst v') w'):if Region.wanted o (yielded ops a.tmps)=true then Oper.wp P o a w K Q else E:=by
 have hw:Region.wanted o (yielded ops a.tmps)=true:=by simp[Region.wanted,hgd]
 rw [if_pos hw];exact Lib.wp_append_run w s x t t ho vs vx hs hx v' w' hr h
theorem asS {P:Program} {ops:Array Oper} {Q:Exit→Act→World→Prop} {md:Region.Mode} {fuel:Nat} {listed:Array Bool} {a:Act} {w:World} {n:Nat} (h:∀Y,Below w.heap.size w Y→wpAny P md ops Q fuel listed a Y):wpAny P md ops Q fuel listed a {w with drawn:=n}:=h _ ⟨rfl,rfl,rfl,Nat.le_refl _,fun _ _=>rfl⟩
theorem avX {P:Program} {ops:Array Oper} {Q:Exit→Act→World→Prop} {md:Region.Mode} (i j:Nat) {oi oj:Oper} {fuel:Nat} {listed:Array Bool} {a:Act} {w:World} (hi:ops[i]?=some oi) (hj:ops[j]?=some oj) (hr:Region.ready md ops listed=[i,j]) (hwi:Region.wanted oi (yielded ops a.tmps)=true) (hwj:Region.wanted oj (yielded ops a.tmps)=true)
 (h1:oi.wp P a w (wpAny P md ops Q fuel (listed.setIfInBounds i true)) Q) (h2:oj.wp P a w (wpAny P md ops Q fuel (listed.setIfInBounds j true)) Q):wpAny P md ops Q (fuel+1) listed a w:=by
 refine⟨fun h=>(by rw [hr] at h;cases h),fun k hk=>?_⟩;rw [hr] at hk;simp only[List.mem_cons,List.not_mem_nil,or_false] at hk;unfold wpOp;rcases hk with rfl|rfl
 ·simp only[hi];rw [if_pos hwi];exact .inl h1
 ·simp only[hj];rw [if_pos hwj];exact .inl h2
theorem atE (c:Nat) (w:World) (hc:Cur w c):Calls Tryz.prog 32 #[.pointer (some ⟨c,0,none⟩)] w fun e w'=>∃n A,e= .returned (gu n A)∧eH n 1048576∧(∀W'',Dx w w' W''→dQ W'' A n)∧Cur w' c∧Keeps c w w':=by
 have hcl:=hc.lt;have HC:=hide hc;clear hc;go_enter Tryz.func32,Tryz.ntmps32
 go_wp2_with fail;generalize hwa:w.alloc (.cells iO 30)=wa at *;have aud:wa.heap.size=w.heap.size+1:=by rw [←hwa];simp
 have HCA:=hide (show Cur wa c by rw [←hwa];exact asl HC _);have HKA:=hide (show Keeps c w wa by rw [←hwa];exact asv _);have qB:=hide (show wa.heap[w.heap.size]?=some (.cells iO 30 (0,0)) by rw [←hwa];exact heap_alloc_new w _);clear hwa HC;have FW:=hide (asn c (w.heap.size+1) 3 [0,0,-1] _ (asl HCA (.cells (([0,0,-1]:List Int).map (Value.int .i64)).toArray 3)) (by omega) (by decide) (by decide) (fun i hi=>by rw [←aud];exact asq wa [0,0,-1] _ i hi) (by simp;omega));refine FW.mono ?_;clear FW;rintro e w1 ⟨par,rfl,hpar,hc1,hk1⟩;have Wt:=hide hc1;have HK1:=hide ((HKA.trans (asv _)).trans hk1);have HR1:=hide (show w1.heap[w.heap.size]?=some (.cells iO 30 (0,0)) by rw [hk1.block _ (by simp;omega) (by omega),Below.heap_alloc _ _ _ (by omega)];exact qB);clear hc1 hk1 HCA HKA qB hpar;obtain⟨HZ,HPU⟩:=auE par;have hr1:=aA HR1;have HNN:=hide (asK 1 par (some ⟨w1.heap.size,0,none⟩) 2 [2,3] (w1.alloc (.cells (([2,3]:List Int).map (Value.int .i64)).toArray 3)) (by simp) (fun e=>by cases e) (aug w1 [2,3] 3));generalize Io 1 par [2,3]=R at *;go_wp2_with fail;refine HNN.mono ?_;clear HNN;rintro e w2 ⟨A,rfl,hrm,hb2,hAp,hAc⟩;have HRM:=hide hrm;have uF:=hide ((asl Wt (.cells (([2,3]:List Int).map (Value.int .i64)).toArray 3)).keep_below hb2);have MK:=hide ((HK1.trans (asv (.cells (([2,3]:List Int).map (Value.int .i64)).toArray 3))).trans (Keeps.of_below hb2));have HR2:=hide (show w2.heap[w.heap.size]?=some (.cells iO 30 (0,0)) by rw [hb2.block _ (by simp;omega),Below.heap_alloc _ _ _ (by omega)];exact HR1);have HZ2:=hide HZ;have auL:=hide HPU;clear hrm hb2 Wt HK1 HR1 HZ HPU;obtain⟨n,ok⟩:=R;obtain⟨avk,auK,aul,aum,avW,auJ,auo,auI,aun⟩:=n;obtain⟨a_k,iy,dA,dJ,fq,aI,bf,aM,aJ,aQ⟩:=A;dsimp only at hAp hAc auL;have hPn:=ah auL;subst hAp hAc hPn;clear auL;go_upto_region 2 with fail;refine wp_at (fun V0 hV=>?_);have HS:=hide (NSt.make (V:=V0) (L:=w1.heap.size+1) hcl uF MK HR2 (by omega) (by obtain⟨gk,gs,I,col,h1,h2⟩:=ah HRM;exact⟨gk,gs,I,col,h1,fun x hx=>h2 x (by simpa using hx)⟩) HZ2 hV);clear hV uF MK HR2 HZ2 HRM hr1 aud;generalize w2.heap.size=g at *;obtain⟨c0,c1,c2,c3,c4,c5,c6,c7,c8⟩:=nine HS.own;go_cut [3] (fun p wx=>p= .pointer (some ⟨g,0,none⟩)∧∃n A,NSt w c g n A wx)
 case first=>
  refine wp_region_any (by kernel_rfl) ?_;show wpAny _ _ _ _ 11 (Array.replicate 11 false) _ _
  refine asS (fun Y hY=>?_);have TY:=hide (HS.draw (HS.cur.keep_below hY) (Keeps.of_below hY));clear hY HS c0 c1 c2 c3 c4 c5 c6 c7 c8;obtain⟨c0,c1,c2,c3,c4,c5,c6,c7,c8⟩:=nine TY.own;refine ab5 0 rfl (by kernel_rfl) (by kernel_rfl) (by kernel_rfl) (fun _ _ _ _ h=>h) (fun K hK=>?_);go_simp
  first
   |(refine hK _ ?_;clear hK K)
   |(apply Exists.intro
     refine⟨fun _=>rfl,hK _ ?_⟩
     clear hK K)
  refine ab5 2 rfl (by kernel_rfl) (by kernel_rfl) (by kernel_rfl) (fun _ _ _ _ h=>h) (fun K hK=>?_);go_simp
  first
   |(refine hK _ ?_;clear hK K)
   |(apply Exists.intro
     refine⟨fun _=>rfl,hK _ ?_⟩
     clear hK K)
  refine avX 1 3 rfl rfl (by kernel_rfl) (by rfl) (by rfl) ?_ ?_
  ·go_simp;refine aG 3 rfl (by kernel_rfl) (by rfl) ?_;go_simp;refine(asj c 30 _ TY.cur (by omega) (by omega)).mono ?_;rintro e w4 ⟨x,rfl,hx0,hx1,hc4,hk4⟩;have HS4:=hide (TY.draw hc4 hk4);clear hc4 hk4;obtain⟨d0,d1,d2,d3,d4,d5,d6,d7,d8⟩:=nine HS4.own;have hx2:IntKind.i64.wrap (1+x)=1+x:=IntWalk.i64_in _ ⟨by omega,by omega⟩;go_simp;refine ab5 4 rfl (by kernel_rfl) (by kernel_rfl) (by kernel_rfl) (fun _ _ _ _ h=>h) (fun K hK=>?_);go_simp
   first
    |(refine hK _ ?_;clear hK K)
    |(apply Exists.intro
      refine⟨fun _=>rfl,hK _ ?_⟩
      clear hK K)
   try rw [hx2]
   refine aG 5 rfl (by kernel_rfl) (by rfl) ?_;go_simp;refine(asJ ⟨#[97]⟩ (1+x) w4 (by decide) ⟨by omega,by omega⟩).mono ?_;rintro e w5 ⟨v5,RL,b5,rfl,hRL,hRK,hown5,hb5⟩;obtain⟨a5,cp5,rfl,_⟩:=GR.own_at aZ hown5;have CB:=hide hown5;have jJ:=hide hb5;have HRK:=hide hRK;have HS5:=hide (HS4.draw (HS4.cur.keep_below hb5) (Keeps.of_below hb5));clear hown5 hb5 hRK d0 d1 d2 d3 d4 d5 d6 d7 d8;obtain⟨e0,e1,e2,e3,e4,e5,e6,e7,e8⟩:=nine HS5.own;have f4:=ay HS5.own 4;go_simp;refine ab5 6 rfl (by kernel_rfl) (by kernel_rfl) (by kernel_rfl) (fun _ _ _ _ h=>h) (fun K hK=>?_);go_simp
   first
    |(refine hK _ ?_;clear hK K)
    |(apply Exists.intro
      refine⟨fun _=>rfl,hK _ ?_⟩
      clear hK K)
   refine ab5 7 rfl (by kernel_rfl) (by kernel_rfl) (by kernel_rfl) (fun _ _ _ _ h=>h) (fun K hK=>?_);go_simp
   first
    |(refine hK _ ?_;clear hK K)
    |(apply Exists.intro
      refine⟨fun _=>rfl,hK _ ?_⟩
      clear hK K)
   refine ab5 8 rfl (by kernel_rfl) (by kernel_rfl) (by kernel_rfl) (fun _ _ _ _ h=>h) (fun K hK=>?_);go_simp
   first
    |(refine hK _ ?_;clear hK K)
    |(apply Exists.intro
      refine⟨fun _=>rfl,hK _ ?_⟩
      clear hK K)
   refine ab5 9 rfl (by kernel_rfl) (by kernel_rfl) (by kernel_rfl) (fun _ _ _ _ h=>h) (fun K hK=>?_);go_simp
   first
    |(refine hK _ ?_;clear hK K)
    |(apply Exists.intro
      refine⟨fun _=>rfl,hK _ ?_⟩
      clear hK K)
   refine aG 10 rfl (by kernel_rfl) (by rfl) ?_;go_simp;refine wpAny_done (by kernel_rfl) ?_;go_simp;go_wp2_with fail;go_meet
   case rel=>
    refine⟨rfl,⟨avk,auK,aul,aum,RL,auJ,auo,auI,aun⟩,⟨a_k,a5,dA,dJ,fq,aI,cp5,aM,aJ,aQ⟩,?_⟩;refine HS5.far ((Below.refl _ w5).setCell (p:=⟨g,4,none⟩) HS5.glt _) (bg HS5.own 4 _) ?_ ?_
    ·exact(HS4.rm.pu (aA HS4.own) (aA HS4.res) jJ (Nat.le_refl _) CB).set
    ·have hz:=HS4.sz;exact⟨hz.k,by show RL.length≤1048576;omega,hz.o,hz.s,hz.r,fun p hp=>Nat.le_trans (HRK p hp) (by omega),hz.ok,hz.sk,hz.rk⟩
  ·go_simp;refine(asj c 30 _ TY.cur (by omega) (by omega)).mono ?_;rintro e w4 ⟨x,rfl,hx0,hx1,hc4,hk4⟩;have HS4:=hide (TY.draw hc4 hk4);clear hc4 hk4;obtain⟨d0,d1,d2,d3,d4,d5,d6,d7,d8⟩:=nine HS4.own;have hx2:IntKind.i64.wrap (1+x)=1+x:=IntWalk.i64_in _ ⟨by omega,by omega⟩;go_simp;refine ab5 4 rfl (by kernel_rfl) (by kernel_rfl) (by kernel_rfl) (fun _ _ _ _ h=>h) (fun K hK=>?_);go_simp
   first
    |(refine hK _ ?_;clear hK K)
    |(apply Exists.intro
      refine⟨fun _=>rfl,hK _ ?_⟩
      clear hK K)
   refine aG 1 rfl (by kernel_rfl) (by rfl) ?_;go_simp;try rw [hx2]
   refine aG 5 rfl (by kernel_rfl) (by rfl) ?_;go_simp;refine(asJ ⟨#[97]⟩ (1+x) w4 (by decide) ⟨by omega,by omega⟩).mono ?_;rintro e w5 ⟨v5,RL,b5,rfl,hRL,hRK,hown5,hb5⟩;obtain⟨a5,cp5,rfl,_⟩:=GR.own_at aZ hown5;have CB:=hide hown5;have jJ:=hide hb5;have HRK:=hide hRK;have HS5:=hide (HS4.draw (HS4.cur.keep_below hb5) (Keeps.of_below hb5));clear hown5 hb5 hRK d0 d1 d2 d3 d4 d5 d6 d7 d8;obtain⟨e0,e1,e2,e3,e4,e5,e6,e7,e8⟩:=nine HS5.own;have f4:=ay HS5.own 4;go_simp;refine ab5 6 rfl (by kernel_rfl) (by kernel_rfl) (by kernel_rfl) (fun _ _ _ _ h=>h) (fun K hK=>?_);go_simp
   first
    |(refine hK _ ?_;clear hK K)
    |(apply Exists.intro
      refine⟨fun _=>rfl,hK _ ?_⟩
      clear hK K)
   refine ab5 7 rfl (by kernel_rfl) (by kernel_rfl) (by kernel_rfl) (fun _ _ _ _ h=>h) (fun K hK=>?_);go_simp
   first
    |(refine hK _ ?_;clear hK K)
    |(apply Exists.intro
      refine⟨fun _=>rfl,hK _ ?_⟩
      clear hK K)
   refine ab5 8 rfl (by kernel_rfl) (by kernel_rfl) (by kernel_rfl) (fun _ _ _ _ h=>h) (fun K hK=>?_);go_simp
   first
    |(refine hK _ ?_;clear hK K)
    |(apply Exists.intro
      refine⟨fun _=>rfl,hK _ ?_⟩
      clear hK K)
   refine ab5 9 rfl (by kernel_rfl) (by kernel_rfl) (by kernel_rfl) (fun _ _ _ _ h=>h) (fun K hK=>?_);go_simp
   first
    |(refine hK _ ?_;clear hK K)
    |(apply Exists.intro
      refine⟨fun _=>rfl,hK _ ?_⟩
      clear hK K)
   refine aG 10 rfl (by kernel_rfl) (by rfl) ?_;go_simp;refine wpAny_done (by kernel_rfl) ?_;go_simp;go_wp2_with fail;go_meet
   case rel=>
    refine⟨rfl,⟨avk,auK,aul,aum,RL,auJ,auo,auI,aun⟩,⟨a_k,a5,dA,dJ,fq,aI,cp5,aM,aJ,aQ⟩,?_⟩;refine HS5.far ((Below.refl _ w5).setCell (p:=⟨g,4,none⟩) HS5.glt _) (bg HS5.own 4 _) ?_ ?_
    ·exact(HS4.rm.pu (aA HS4.own) (aA HS4.res) jJ (Nat.le_refl _) CB).set
    ·have hz:=HS4.sz;exact⟨hz.k,by show RL.length≤1048576;omega,hz.o,hz.s,hz.r,fun p hp=>Nat.le_trans (HRK p hp) (by omega),hz.ok,hz.sk,hz.rk⟩
 case rest=>
  obtain⟨rfl,n0,A0,hS⟩:=hcut;have HS:=hide hS;clear hS;go_wp2_with fail;refine(asj c 24 _ HS.cur (by omega) (by omega)).mono ?_;rintro e wk ⟨k,rfl,hk0,hk1,hck,hkk⟩;have HSk:=hide (HS.draw hck hkk);clear hck hkk HS;go_upto_block 0 with fail;go_cut [3] (fun p wx=>p= .pointer (some ⟨g,0,none⟩)∧∃n A,NSt w c g n A wx)
  case first=>
   go_wp2_with fail;go_loopw [6] (fun i wr=>∃(q:Nat) (n:Nd) (A:bE),(q:Int)≤k∧i= .int .i64 q∧NSt w c g n A wr) (fun i _=>k.toNat - (intOf i).toNat)
   case atStart=>exact⟨0,n0,A0,by omega,rfl,HSk⟩
   case round=>
    obtain⟨q,n,A,hq,rfl,hS⟩:=hrel;have HS:=hide hS;clear hS HSk;by_cases hlt:(q:Int) < k
    ·have hd:decide ((q:Int) < k)=true:=decide_eq_true hlt;go_upto_block 1 with fail;go_cut [3] (fun p wx=>p= .pointer (some ⟨g,0,none⟩)∧∃n A,NSt w c g n A wx)
     case first=>
      go_upto_region 7 with fail;refine wp_region_any (by kernel_rfl) ?_;show wpAny _ _ _ _ 9 (Array.replicate 9 false) _ _
      refine asS (fun Y hY=>?_);have TY:=hide (HS.draw (HS.cur.keep_below hY) (Keeps.of_below hY));clear hY HS;obtain⟨c0,c1,c2,c3,c4,c5,c6,c7,c8⟩:=nine TY.own;refine ab5 1 rfl (by kernel_rfl) (by kernel_rfl) (by kernel_rfl) (fun _ _ _ _ h=>h) (fun K hK=>?_);go_simp
      first
       |(refine hK _ ?_;clear hK K)
       |(apply Exists.intro
         refine⟨fun _=>rfl,hK _ ?_⟩
         clear hK K)
      refine avX 0 2 rfl rfl (by kernel_rfl) (by rfl) (by rfl) ?_ ?_
      ·go_simp;refine aG 2 rfl (by kernel_rfl) (by rfl) ?_;go_simp;refine(aui c _ TY.cur).mono ?_;rintro e w4 ⟨⟨K,no,ky,nn,⟨mK,mF,mT,mI,mL,mk,mN⟩⟩,rfl,hky,hmk,hc4,hk4⟩;dsimp only at hky hmk;have HS4:=hide (TY.draw hc4 hk4);clear hc4 hk4;obtain⟨d0,d1,d2,d3,d4,d5,d6,d7,d8⟩:=nine HS4.own;have HDO:=hide (abQ n A K no ky nn mK mF mT mI mL mk mN w4 HS4.sz (by omega) (by omega) HS4.at);have HDZ:=hide (ark (o:=⟨K,no,ky,nn,⟨mK,mF,mT,mI,mL,mk,mN⟩⟩) HS4.sz);generalize Pn n ⟨K,no,ky,nn,⟨mK,mF,mT,mI,mL,mk,mN⟩⟩=R at *;go_simp;refine aG 3 rfl (by kernel_rfl) (by rfl) ?_;go_simp;refine HDO.mono ?_;clear HDO;rintro e w5 ⟨A',a',cp',rfl,hrm,_,hb5⟩;have HRM:=hide hrm;have jJ:=hide hb5;have HS5:=hide (HS4.draw (HS4.cur.keep_below hb5) (Keeps.of_below hb5));clear hrm hb5 d0 d1 d2 d3 d4 d5 d6 d7 d8;obtain⟨e0,e1,e2,e3,e4,e5,e6,e7,e8⟩:=nine HS5.own;have f0:=ay HS5.own 0;have f1:=ay HS5.own 1;have f2:=ay HS5.own 2;have f3:=ay HS5.own 3;have f4:=ay HS5.own 4;have f5:=ay HS5.own 5;have f6:=ay HS5.own 6;have f7:=ay HS5.own 7;have f8:=ay HS5.own 8;have avg:=aA HS5.own;go_simp;refine ab5 4 rfl (by kernel_rfl) (by kernel_rfl) (by kernel_rfl) (fun _ _ _ _ h=>h) (fun K hK=>?_);go_simp
       first
        |(refine hK _ ?_;clear hK K)
        |(apply Exists.intro
          refine⟨fun _=>rfl,hK _ ?_⟩
          clear hK K)
       refine ab5 5 rfl (by kernel_rfl) (by kernel_rfl) (by kernel_rfl) (fun _ _ _ _ h=>h) (fun K hK=>?_);go_simp
       first
        |(refine hK _ ?_;clear hK K)
        |(apply Exists.intro
          refine⟨fun _=>rfl,hK _ ?_⟩
          clear hK K)
       refine ab5 6 rfl (by kernel_rfl) (by kernel_rfl) (by kernel_rfl) (fun _ _ _ _ h=>h) (fun K hK=>?_);go_simp
       first
        |(refine hK _ ?_;clear hK K)
        |(apply Exists.intro
          refine⟨fun _=>rfl,hK _ ?_⟩
          clear hK K)
       refine ab5 7 rfl (by kernel_rfl) (by kernel_rfl) (by kernel_rfl) (fun _ _ _ _ h=>h) (fun K hK=>?_);go_simp
       first
        |(refine hK _ ?_;clear hK K)
        |(apply Exists.intro
          refine⟨fun _=>rfl,hK _ ?_⟩
          clear hK K)
       refine aG 8 rfl (by kernel_rfl) (by rfl) ?_;go_simp;refine wpAny_done (by kernel_rfl) ?_;go_simp;go_wp2_with fail;go_meet
       case rel=>exact⟨rfl,R.1,A',HS4.did jJ HRM HDZ⟩
      ·go_simp;refine(aui c _ TY.cur).mono ?_;rintro e w4 ⟨⟨K,no,ky,nn,⟨mK,mF,mT,mI,mL,mk,mN⟩⟩,rfl,hky,hmk,hc4,hk4⟩;dsimp only at hky hmk;have HS4:=hide (TY.draw hc4 hk4);clear hc4 hk4;obtain⟨d0,d1,d2,d3,d4,d5,d6,d7,d8⟩:=nine HS4.own;have HDO:=hide (abQ n A K no ky nn mK mF mT mI mL mk mN w4 HS4.sz (by omega) (by omega) HS4.at);have HDZ:=hide (ark (o:=⟨K,no,ky,nn,⟨mK,mF,mT,mI,mL,mk,mN⟩⟩) HS4.sz);generalize Pn n ⟨K,no,ky,nn,⟨mK,mF,mT,mI,mL,mk,mN⟩⟩=R at *;go_simp;refine aG 0 rfl (by kernel_rfl) (by rfl) ?_;go_simp;refine aG 3 rfl (by kernel_rfl) (by rfl) ?_;go_simp;refine HDO.mono ?_;clear HDO;rintro e w5 ⟨A',a',cp',rfl,hrm,_,hb5⟩;have HRM:=hide hrm;have jJ:=hide hb5;have HS5:=hide (HS4.draw (HS4.cur.keep_below hb5) (Keeps.of_below hb5));clear hrm hb5 d0 d1 d2 d3 d4 d5 d6 d7 d8;obtain⟨e0,e1,e2,e3,e4,e5,e6,e7,e8⟩:=nine HS5.own;have f0:=ay HS5.own 0;have f1:=ay HS5.own 1;have f2:=ay HS5.own 2;have f3:=ay HS5.own 3;have f4:=ay HS5.own 4;have f5:=ay HS5.own 5;have f6:=ay HS5.own 6;have f7:=ay HS5.own 7;have f8:=ay HS5.own 8;have avg:=aA HS5.own;go_simp;refine ab5 4 rfl (by kernel_rfl) (by kernel_rfl) (by kernel_rfl) (fun _ _ _ _ h=>h) (fun K hK=>?_);go_simp
       first
        |(refine hK _ ?_;clear hK K)
        |(apply Exists.intro
          refine⟨fun _=>rfl,hK _ ?_⟩
          clear hK K)
       refine ab5 5 rfl (by kernel_rfl) (by kernel_rfl) (by kernel_rfl) (fun _ _ _ _ h=>h) (fun K hK=>?_);go_simp
       first
        |(refine hK _ ?_;clear hK K)
        |(apply Exists.intro
          refine⟨fun _=>rfl,hK _ ?_⟩
          clear hK K)
       refine ab5 6 rfl (by kernel_rfl) (by kernel_rfl) (by kernel_rfl) (fun _ _ _ _ h=>h) (fun K hK=>?_);go_simp
       first
        |(refine hK _ ?_;clear hK K)
        |(apply Exists.intro
          refine⟨fun _=>rfl,hK _ ?_⟩
          clear hK K)
       refine ab5 7 rfl (by kernel_rfl) (by kernel_rfl) (by kernel_rfl) (fun _ _ _ _ h=>h) (fun K hK=>?_);go_simp
       first
        |(refine hK _ ?_;clear hK K)
        |(apply Exists.intro
          refine⟨fun _=>rfl,hK _ ?_⟩
          clear hK K)
       refine aG 8 rfl (by kernel_rfl) (by rfl) ?_;go_simp;refine wpAny_done (by kernel_rfl) ?_;go_simp;go_wp2_with fail;go_meet
       case rel=>exact⟨rfl,R.1,A',HS4.did jJ HRM HDZ⟩
     case rest=>
      obtain⟨rfl,n',A',hS'⟩:=hcut;have HS':=hide hS';clear hS';go_wp2_with fail;go_roundw
      case rel=>exact⟨q+1,n',A',by omega,by go_num,HS'⟩
      case measure=>simp[intOf];omega
    ·have hd:decide ((q:Int) < k)=false:=decide_eq_false hlt;go_wp2_with fail;go_meet
     case rel=>exact⟨rfl,n,A,HS⟩
  case rest=>
   obtain⟨rfl,n1,A1,hS⟩:=hcut;have HS:=hide hS;clear hS;go_wp2_with fail;refine(asj c 24 _ HS.cur (by omega) (by omega)).mono ?_;rintro e wz ⟨z,rfl,hz0,hz1,hcz,hkz⟩;have HSz:=hide (HS.draw hcz hkz);clear hcz hkz HS;go_upto_block 2 with fail;go_cut [3] (fun p wx=>p= .pointer (some ⟨g,0,none⟩)∧∃n A,NSt w c g n A wx)
   case first=>
    have hzc:z=0∨z=1∨z=2∨z=3∨z=4∨z=5∨5 < z:=by omega
    rcases hzc with rfl|rfl|rfl|rfl|rfl|rfl|hz5
    ·have FW:=hide (asn c wz.heap.size 4 [1,2,30,-2] _ (asl HSz.cur (.cells (([1,2,30,-2]:List Int).map (Value.int .i64)).toArray 3)) (by have:=HSz.cur.lt;omega) (by decide) (by decide) (fun i hi=>asq wz [1,2,30,-2] _ i hi) (by simp));go_wp2_with fail;refine FW.mono ?_;clear FW;rintro e wp ⟨y,rfl,_,hcx,hkx⟩;have HS2:=hide ((HSz.new _).draw hcx hkx);clear hcx hkx HSz;obtain⟨c0,c1,c2,c3,c4,c5,c6,c7,c8⟩:=nine HS2.own;have ff:=ay HS2.own 1;have hgl:=aA HS2.own;go_wp2_with fail;go_meet
     case rel=>exact⟨rfl,{n1 with par:=y},A1,HS2.put 1 (.int .i64 y) rfl rfl rfl rfl rfl rfl⟩
    ·have FW:=hide (asn c wz.heap.size 3 [0,1,1000000000] _ (asl HSz.cur (.cells (([0,1,1000000000]:List Int).map (Value.int .i64)).toArray 3)) (by have:=HSz.cur.lt;omega) (by decide) (by decide) (fun i hi=>asq wz [0,1,1000000000] _ i hi) (by simp));go_wp2_with fail;refine FW.mono ?_;clear FW;rintro e wp ⟨y,rfl,_,hcx,hkx⟩;have HS2:=hide ((HSz.new _).draw hcx hkx);clear hcx hkx HSz;obtain⟨c0,c1,c2,c3,c4,c5,c6,c7,c8⟩:=nine HS2.own;have ff:=ay HS2.own 3;have hgl:=aA HS2.own;go_wp2_with fail;go_meet
     case rel=>exact⟨rfl,{n1 with next:=y},A1,HS2.put 3 (.int .i64 y) rfl rfl rfl rfl rfl rfl⟩
    ·go_wp2_with fail;go_loopw [64] (fun _ wr=>∃n A,NSt w c g n A wr) (fun _ wr=>asD (wr.cell? ⟨g,5,none⟩))
     case atStart=>exact⟨n1,A1,HSz⟩
     case round=>
      obtain⟨n,A,hS⟩:=hrel;have HS:=hide hS;clear hS HSz;obtain⟨c0,c1,c2,c3,c4,c5,c6,c7,c8⟩:=nine HS.own;have HM:=hide c5;go_upto_region 14 with fail
      go_region_held (fun w'=>w'.cell? ⟨g,5,none⟩=some (.slice A.o n.out.length A.co)) (go_keep)
       (first|(go_at_call 44;refine(asj _ 2 _ ?_ (by omega) (by omega)).mono ?_;exact HS.cur;rintro e w4 ⟨x,rfl,hx0,hx1,hc4,hk4⟩;have HS4:=hide (HS.draw hc4 ⟨hk4.os,hk4.tape,hk4.output,hk4.size,hk4.block⟩);clear hc4 hk4;obtain⟨d0,d1,d2,d3,d4,d5,d6,d7,d8⟩:=nine HS4.own;have hx2:IntKind.i64.wrap (40+x)=40+x:=IntWalk.i64_in _ ⟨by omega,by omega⟩))
      all_goals
       clear c0 c1 c2 c3 c4 c5 c6 c7 c8
       by_cases hlt:(n.out.length:Int) < 40+x
       ·have hd:decide ((n.out.length:Int) < 40+x)=true:=decide_eq_true hlt;obtain⟨a',cp',w5,hrun,hbg,hS5⟩:=(HS4.new (.cells #[.int .i64 n.next,.int .i64 2,.string ⟨#[97]⟩,.int .i64 1] 95)).outPut ⟨n.next,2,⟨#[97]⟩,1⟩ (by show(⟨#[97]⟩:ByteArray).size≤1048576;decide) w4.heap.size (heap_alloc_new w4 _) (by omega);have HS5:=hide hS5;have hown5:w5.heap[g]?=some (.cells (fZ n A) 30 (0,0)):=hbg.trans (HS4.new _).own;obtain⟨e0,e1,e2,e3,e4,e5,e6,e7,e8⟩:=nine hown5;have f5:=ay hown5 5;have avg:=aA hown5;obtain⟨k0,k1,k2,k3,k4,k5,k6,k7,k8⟩:=nine hS5.own;have g3:=ay hS5.own 3;have arJ:=aA hS5.own;clear hS5 hown5 hbg;go_wp2_with (at_builtin;refine fA rfl _ _ 26 rfl _ _ rfl rfl _ _ hrun ?_)
        go_roundw
        case rel=>exact⟨_,_,HS5.put (n':={n with out:=n.out++[⟨n.next,2,⟨#[97]⟩,1⟩],next:=wrap64 (n.next+1)}) 3 (.int .i64 (wrap64 (n.next+1))) rfl rfl rfl rfl rfl rfl⟩
        case measure=>
         have hm:=ah HM;rw [hm];have e:=(HS5.put (n':={n with out:=n.out++[⟨n.next,2,⟨#[97]⟩,1⟩],next:=wrap64 (n.next+1)}) 3 (.int .i64 (wrap64 (n.next+1))) rfl rfl rfl rfl rfl rfl).own;rw [(nine e).2.2.2.2.2.1];simp[asD];omega
       ·have hd:decide ((n.out.length:Int) < 40+x)=false:=decide_eq_false hlt;go_wp2_with fail;go_meet
        case rel=>exact⟨rfl,n,A,HS4⟩
    ·go_wp2_with fail;go_loopw [7] (fun i wr=>∃(q:Nat) (n:Nd) (A:bE),i= .int .i64 q∧q≤n.reqs.length∧NSt w c g n A wr) (fun _ wr=>asD (wr.cell? ⟨g,8,none⟩))
     case atStart=>exact⟨0,n1,A1,rfl,Nat.zero_le _,HSz⟩
     case round=>
      obtain⟨q,n,A,rfl,hq,hS⟩:=hrel;have HS:=hide hS;clear hS HSz;obtain⟨c0,c1,c2,c3,c4,c5,c6,c7,c8⟩:=nine HS.own;have HM:=hide c8;go_upto_region 19 with fail
      go_region_held (fun w'=>w'.cell? ⟨g,8,none⟩=some (.slice A.r n.reqs.length A.cr)) (go_keep)
       (first|(go_at_call 44;refine(asj _ 2 _ ?_ (by omega) (by omega)).mono ?_;exact HS.cur;rintro e w4 ⟨x,rfl,hx0,hx1,hc4,hk4⟩;have HS4:=hide (HS.draw hc4 ⟨hk4.os,hk4.tape,hk4.output,hk4.size,hk4.block⟩);clear hc4 hk4;obtain⟨d0,d1,d2,d3,d4,d5,d6,d7,d8⟩:=nine HS4.own;have hx2:IntKind.i64.wrap (30+x)=30+x:=IntWalk.i64_in _ ⟨by omega,by omega⟩))
      all_goals
       clear c0 c1 c2 c3 c4 c5 c6 c7 c8
       by_cases hlt:(n.reqs.length:Int) < 30+x
       ·have hd:decide ((n.reqs.length:Int) < 30+x)=true:=decide_eq_true hlt;have hq2:IntKind.i64.wrap (100+(q:Int))=100+q:=IntWalk.i64_in _ ⟨by omega,by omega⟩;clear d0 d1 d2 d3 d4 d5 d6 d7 d8;go_upto_block 6 with fail;go_cut [3] (fun p wx=>p= .pointer (some ⟨g,0,none⟩)∧∃(n':Nd) (A':bE),NSt w c g n' A' wx∧n'.reqs.length=n.reqs.length+1)
        case first=>
         go_upto_region 21 with fail;refine wp_region_any (by kernel_rfl) ?_;show wpAny _ _ _ _ 11 (Array.replicate 11 false) _ _
         refine asS (fun Y hY=>?_);have TY:=hide (HS4.draw (HS4.cur.keep_below hY) (Keeps.of_below hY));clear hY HS4;obtain⟨c0,c1,c2,c3,c4,c5,c6,c7,c8⟩:=nine TY.own;refine ab5 0 rfl (by kernel_rfl) (by kernel_rfl) (by kernel_rfl) (fun _ _ _ _ h=>h) (fun K hK=>?_);go_simp
         first
          |(refine hK _ ?_;clear hK K)
          |(apply Exists.intro
            refine⟨fun _=>rfl,hK _ ?_⟩
            clear hK K)
         refine ab5 2 rfl (by kernel_rfl) (by kernel_rfl) (by kernel_rfl) (fun _ _ _ _ h=>h) (fun K hK=>?_);go_simp
         first
          |(refine hK _ ?_;clear hK K)
          |(apply Exists.intro
            refine⟨fun _=>rfl,hK _ ?_⟩
            clear hK K)
         refine ab5 3 rfl (by kernel_rfl) (by kernel_rfl) (by kernel_rfl) (fun _ _ _ _ h=>h) (fun K hK=>?_);go_simp
         first
          |(refine hK _ ?_;clear hK K)
          |(apply Exists.intro
            refine⟨fun _=>rfl,hK _ ?_⟩
            clear hK K)
         try simp only[hq2]
         refine ab5 4 rfl (by kernel_rfl) (by kernel_rfl) (by kernel_rfl) (fun _ _ _ _ h=>h) (fun K hK=>?_);go_simp
         first
          |(refine hK _ ?_;clear hK K)
          |(apply Exists.intro
            refine⟨fun _=>rfl,hK _ ?_⟩
            clear hK K)
         refine avX 1 5 rfl rfl (by kernel_rfl) (by rfl) (by rfl) ?_ ?_
         ·go_simp;refine aG 5 rfl (by kernel_rfl) (by rfl) ?_;go_simp;refine(asj c 4 _ TY.cur (by omega) (by omega)).mono ?_;rintro e w6 ⟨y,rfl,hy0,hy1,hc6,ND⟩;have HS6:=hide (TY.draw hc6 ND);clear hc6 ND;obtain⟨d0,d1,d2,d3,d4,d5,d6,d7,d8⟩:=nine HS6.own;obtain⟨k0,k1,k2,k3,k4,k5,k6,k7,k8⟩:=nine (HS6.new (.cells #[.int .i64 (100+q),.string ⟨#[97]⟩,.int .i64 1,.int .i64 y] 97)).own;obtain⟨a',cp',w7,hrun,hbg,hS7⟩:=(HS6.new (.cells #[.int .i64 (100+q),.string ⟨#[97]⟩,.int .i64 1,.int .i64 y] 97)).reqsPut ⟨100+q,⟨#[97]⟩,1,y⟩ (by show(⟨#[97]⟩:ByteArray).size≤1048576;decide) w6.heap.size (heap_alloc_new w6 _) (by omega);have HS7:=hide hS7;have CZ:w7.heap[g]?=some (.cells (fZ n A) 30 (0,0)):=hbg.trans (HS6.new _).own;obtain⟨e0,e1,e2,e3,e4,e5,e6,e7,e8⟩:=nine CZ;have f8:=ay CZ 8;have avK:=aA CZ;clear hS7 CZ hbg;go_simp;refine ab5 6 rfl (by kernel_rfl) (by kernel_rfl) (by kernel_rfl) (fun _ _ _ _ h=>h) (fun K hK=>?_);go_simp
          first
           |(refine hK _ ?_;clear hK K)
           |(apply Exists.intro
             refine⟨fun _=>rfl,hK _ ?_⟩
             clear hK K)
          refine aG 7 rfl (by kernel_rfl) (by rfl) ?_;go_simp;refine aG 8 rfl (by kernel_rfl) (by rfl) ?_;refine Lib.wp_append_run _ (.tmp 89) (.tmp 95) 28 28 rfl _ _ (by simp[Act.eval]) (by simp[Act.eval]) _ _ hrun ?_;go_simp;refine ab5 9 rfl (by kernel_rfl) (by kernel_rfl) (by kernel_rfl) (fun _ _ _ _ h=>h) (fun K hK=>?_);go_simp
          first
           |(refine hK _ ?_;clear hK K)
           |(apply Exists.intro
             refine⟨fun _=>rfl,hK _ ?_⟩
             clear hK K)
          refine aG 10 rfl (by kernel_rfl) (by rfl) ?_;go_simp;refine wpAny_done (by kernel_rfl) ?_;go_simp;go_wp2_with fail;go_meet
          case rel=>exact⟨rfl,_,_,HS7,by simp⟩
         ·go_simp;refine(asj c 4 _ TY.cur (by omega) (by omega)).mono ?_;rintro e w6 ⟨y,rfl,hy0,hy1,hc6,ND⟩;have HS6:=hide (TY.draw hc6 ND);clear hc6 ND;obtain⟨d0,d1,d2,d3,d4,d5,d6,d7,d8⟩:=nine HS6.own;obtain⟨k0,k1,k2,k3,k4,k5,k6,k7,k8⟩:=nine (HS6.new (.cells #[.int .i64 (100+q),.string ⟨#[97]⟩,.int .i64 1,.int .i64 y] 97)).own;obtain⟨a',cp',w7,hrun,hbg,hS7⟩:=(HS6.new (.cells #[.int .i64 (100+q),.string ⟨#[97]⟩,.int .i64 1,.int .i64 y] 97)).reqsPut ⟨100+q,⟨#[97]⟩,1,y⟩ (by show(⟨#[97]⟩:ByteArray).size≤1048576;decide) w6.heap.size (heap_alloc_new w6 _) (by omega);have HS7:=hide hS7;have CZ:w7.heap[g]?=some (.cells (fZ n A) 30 (0,0)):=hbg.trans (HS6.new _).own;obtain⟨e0,e1,e2,e3,e4,e5,e6,e7,e8⟩:=nine CZ;have f8:=ay CZ 8;have avK:=aA CZ;clear hS7 CZ hbg;go_simp;refine ab5 6 rfl (by kernel_rfl) (by kernel_rfl) (by kernel_rfl) (fun _ _ _ _ h=>h) (fun K hK=>?_);go_simp
          first
           |(refine hK _ ?_;clear hK K)
           |(apply Exists.intro
             refine⟨fun _=>rfl,hK _ ?_⟩
             clear hK K)
          refine avX 1 7 rfl rfl (by kernel_rfl) (by rfl) (by rfl) ?_ ?_
          ·go_simp;refine aG 7 rfl (by kernel_rfl) (by rfl) ?_;go_simp;refine aG 8 rfl (by kernel_rfl) (by rfl) ?_;refine Lib.wp_append_run _ (.tmp 89) (.tmp 95) 28 28 rfl _ _ (by simp[Act.eval]) (by simp[Act.eval]) _ _ hrun ?_;go_simp;refine ab5 9 rfl (by kernel_rfl) (by kernel_rfl) (by kernel_rfl) (fun _ _ _ _ h=>h) (fun K hK=>?_);go_simp
           first
            |(refine hK _ ?_;clear hK K)
            |(apply Exists.intro
              refine⟨fun _=>rfl,hK _ ?_⟩
              clear hK K)
           refine aG 10 rfl (by kernel_rfl) (by rfl) ?_;go_simp;refine wpAny_done (by kernel_rfl) ?_;go_simp;go_wp2_with fail;go_meet
           case rel=>exact⟨rfl,_,_,HS7,by simp⟩
          ·go_simp;refine aG 1 rfl (by kernel_rfl) (by rfl) ?_;go_simp;refine aG 8 rfl (by kernel_rfl) (by rfl) ?_;refine Lib.wp_append_run _ (.tmp 89) (.tmp 95) 28 28 rfl _ _ (by simp[Act.eval]) (by simp[Act.eval]) _ _ hrun ?_;go_simp;refine ab5 9 rfl (by kernel_rfl) (by kernel_rfl) (by kernel_rfl) (fun _ _ _ _ h=>h) (fun K hK=>?_);go_simp
           first
            |(refine hK _ ?_;clear hK K)
            |(apply Exists.intro
              refine⟨fun _=>rfl,hK _ ?_⟩
              clear hK K)
           refine aG 10 rfl (by kernel_rfl) (by rfl) ?_;go_simp;refine wpAny_done (by kernel_rfl) ?_;go_simp;go_wp2_with fail;go_meet
           case rel=>exact⟨rfl,_,_,HS7,by simp⟩
        case rest=>
         obtain⟨rfl,n',A',hS',hl'⟩:=hcut;have HS':=hide hS';clear hS' HS4 HS;go_wp2_with fail;go_roundw
         case rel=>exact⟨q+1,n',A',by go_num,by omega,HS'⟩
         case measure=>
          rw [ah HM,(nine (ah HS').own).2.2.2.2.2.2.2.2];simp[asD];omega
       ·have hd:decide ((n.reqs.length:Int) < 30+x)=false:=decide_eq_false hlt;go_wp2_with fail;go_meet
        case rel=>exact⟨rfl,n,A,HS4⟩
    ·by_cases hp:0 < n1.seen.length
     ·obtain⟨gs,b0,cc0,hA,avS,arK,avU,_,_,_⟩:=HSz.seen0 hp;have hdp:decide ((0:Int) < (n1.seen.length:Int))=true:=decide_eq_true (by omega);obtain⟨c0,c1,c2,c3,c4,c5,c6,c7,c8⟩:=nine HSz.own;have HA:=hide hA;clear hA arK;go_wp2_with fail;clear c0 c1 c2 c3 c4 c5 c6 c7 c8;go_loopw [8] (fun i wr=>∃(q:Nat) (n:Nd) (hp:0 < n.seen.length),i= .int .i64 q∧q≤n.seen[0].ids.length∧NSt w c g n A1 wr) (fun _ wr=>asD (wr.cell? ⟨gs,2,none⟩))
      case atStart=>exact⟨0,n1,hp,rfl,Nat.zero_le _,HSz⟩
      case round=>
       obtain⟨q,n,hpn,rfl,hq,hS⟩:=hrel;have HS:=hide hS;clear hS HSz;obtain⟨gs',b,cc,hA',_,arK,_,hcell,hfree,hall⟩:=HS.seen0 hpn;have eg:gs'=gs:=by have h:=hA'.symm.trans HA;simpa using h
       subst eg;have kV:=hide hall;have HM:=hide hcell;clear hall hA';obtain⟨c0,c1,c2,c3,c4,c5,c6,c7,c8⟩:=nine HS.own;rw [ah HA] at c6;have hgl:=aA HS.own;by_cases hlt:(n.seen[0].ids.length:Int) < 40
       ·have hd:decide ((n.seen[0].ids.length:Int) < 40)=true:=decide_eq_true hlt;have hq2:IntKind.i64.wrap (100+(q:Int))=100+q:=IntWalk.i64_in _ ⟨by omega,by omega⟩;go_upto_block 8 with fail;go_cut [3] (fun p wx=>p= .pointer (some ⟨g,0,none⟩)∧∃(n':Nd) (hp':0 < n'.seen.length),NSt w c g n' A1 wx∧n'.seen[0].ids.length=n.seen[0].ids.length+1)
        case first=>
         go_upto_region 27 with fail;refine wp_at (fun W hW=>?_);subst hW;obtain⟨g2,cq,w7,hrun,hbw,hbg,hbs,hN⟩:=ah kV (W.drew.alloc (.cells #[.int .i64 (100+q)] 3)) W.heap.size (100+q) 24 (by exact⟨rfl,rfl,rfl,by simp,fun k hk=>by first|rfl|exact Below.heap_alloc _ _ _ hk⟩) (heap_alloc_new W.drew _) (by omega);have CZ:w7.heap[g]?=some (.cells (fZ n A1) 30 (0,0)):=hbg.trans HS.own;obtain⟨e0,e1,e2,e3,e4,e5,e6,e7,e8⟩:=nine CZ;rw [ah HA] at e6;have x2:w7.cell? ⟨gs',2,none⟩=some (.slice b n.seen[0].ids.length cc):=(World.cell?_of_block (w:=W) hbs).trans hcell;have xf:w7.frozen? ⟨gs',2,none⟩=false:=(World.frozen?_of_block (w:=W) hbs).trans hfree;have hn1:g≠W.heap.size:=by omega
         have hn2:W.heap.size≠g:=by omega
         have hn3:gs'≠W.heap.size:=by omega
         have hn4:W.heap.size≠gs':=by omega
         have hz7:=hbw.size;have HN:=hide (hN w7 (Below.refl _ _));clear hN hbw hbg hbs CZ kV e0 e1 e2 e3 e4 e5 e7 e8 c0 c1 c2 c3 c4 c5 c7 c8
         go_region_law
          (refine asR _ rfl (.tmp 119) (.tmp 122) 24 rfl _ _ (by simp[Act.eval]) (by simp[Act.eval]) _ _ hrun ?_)
         all_goals
          go_wp2_with fail
          go_meet
          case rel=>exact⟨rfl,_,by simpa [bY] using hpn,HN,by simp[bY]⟩
        case rest=>
         obtain⟨rfl,n',hp',hS',hl'⟩:=hcut;obtain⟨gs2,b2,Gt,hA2,_,_,_,hcell2,_,_⟩:=hS'.seen0 hp';have eg:gs2=gs':=by have h:=hA2.symm.trans HA;simpa using h
         subst eg;have HS':=hide hS';have HM2:=hide hcell2;clear hS' HS hcell2;go_wp2_with fail;go_roundw
         case rel=>exact⟨q+1,n',hp',by go_num,by omega,HS'⟩
         case measure=>
          rw [ah HM,ah HM2];simp[asD];omega
       ·have hd:decide ((n.seen[0].ids.length:Int) < 40)=false:=decide_eq_false hlt;go_wp2_with fail;go_meet
        case rel=>exact⟨rfl,n,A1,HS⟩
     ·have hdp:decide ((0:Int) < (n1.seen.length:Int))=false:=decide_eq_false (by omega);obtain⟨c0,c1,c2,c3,c4,c5,c6,c7,c8⟩:=nine HSz.own;go_wp2_with fail;go_meet
      case rel=>exact⟨rfl,n1,A1,HSz⟩
    ·have FW:=hide (asn c wz.heap.size 3 [-1,5,1000000000] _ (asl HSz.cur (.cells (([-1,5,1000000000]:List Int).map (Value.int .i64)).toArray 3)) (by have:=HSz.cur.lt;omega) (by decide) (by decide) (fun i hi=>asq wz [-1,5,1000000000] _ i hi) (by simp));go_wp2_with fail;refine FW.mono ?_;clear FW;rintro e wp ⟨y,rfl,_,hcx,hkx⟩;have HS2:=hide ((HSz.new _).draw hcx hkx);clear hcx hkx HSz;obtain⟨c0,c1,c2,c3,c4,c5,c6,c7,c8⟩:=nine HS2.own;have ff:=ay HS2.own 7;have hgl:=aA HS2.own;go_wp2_with fail;go_meet
     case rel=>exact⟨rfl,{n1 with old:=y},A1,HS2.put 7 (.int .i64 y) rfl rfl rfl rfl rfl rfl⟩
    ·have h0:decide (z=0)=false:=decide_eq_false (by omega);have h1:decide (z=1)=false:=decide_eq_false (by omega);have h2:decide (z=2)=false:=decide_eq_false (by omega);have h3:decide (z=3)=false:=decide_eq_false (by omega);have h4:decide (z=4)=false:=decide_eq_false (by omega);have h5:decide (z=5)=false:=decide_eq_false (by omega);have e0:(z == 0)=false:=by simp;omega
     have e1:(z == 1)=false:=by simp;omega
     have e2:(z == 2)=false:=by simp;omega
     have e3:(z == 3)=false:=by simp;omega
     have e4:(z == 4)=false:=by simp;omega
     have e5:(z == 5)=false:=by simp;omega
     go_wp2_with fail;go_meet
     case rel=>exact⟨rfl,n1,A1,HSz⟩
   case rest=>
    obtain⟨rfl,n,A,hS⟩:=hcut;have HS:=hide hS;clear hS;obtain⟨q0,q1,q2,q3,q4,q5,q6,q7,q8⟩:=nine HS.own;obtain⟨d0,d1,d2,d3,d4,d5,d6,d7,d8⟩:=nine HS.res;have f0:=ay HS.res 0;have f1:=ay HS.res 1;have f2:=ay HS.res 2;have f3:=ay HS.res 3;have f4:=ay HS.res 4;have f5:=ay HS.res 5;have f6:=ay HS.res 6;have f7:=ay HS.res 7;have f8:=ay HS.res 8;have hzg:=aA HS.own;have hzr:=aA HS.res;have hgl:=HS.glt;go_wp2_with fail;refine aO (fun W' hW'=>?_);have hR:=Ip (b0:= .int .i64 n.id) (b1:= .int .i64 n.par) (b2:= .slice A.k n.kids.length A.ck) (b3:= .int .i64 n.next) (b4:= .slice A.p n.pu.length A.cp) (b5:= .slice A.o n.out.length A.co) (b6:= .slice A.s n.seen.length A.cs) (b7:= .int .i64 n.old) (b8:= .slice A.r n.reqs.length A.cr) HS.res;have hK:=zX (w:=wc) (g:=w.heap.size) (b0:= .int .i64 n.id) (b1:= .int .i64 n.par) (b2:= .slice A.k n.kids.length A.ck) (b3:= .int .i64 n.next) (b4:= .slice A.p n.pu.length A.cp) (b5:= .slice A.o n.out.length A.co) (b6:= .slice A.s n.seen.length A.cs) (b7:= .int .i64 n.old) (b8:= .slice A.r n.reqs.length A.cr);rw [←hW'] at hR hK;obtain⟨x0,x1,x2,x3,x4,x5,x6,x7,x8⟩:=nine hR;have hbl:Below w.heap.size wc W':=hK.below (fun x hx=>by have:x=w.heap.size:=(by simpa using hx);omega) (by omega)
    have hat:∀W'',Dx w W' W''→dQ W'' A n:=fun W'' hA=>by
     obtain⟨gk,gs,I,col,h1,h2,h3⟩:=HS.rm
     exact((h1.kc (k:=0) (KC.keeps hK (fun x hx=>h2 x (by have:x=w.heap.size:=(by simpa using hx);omega))) (.inl rfl)).kc (hA.kc (fun x hx=>h2 x (by omega))) (.inl rfl)).at
    have hkk:Keeps c w W':=by
     have h:=HS.keep;exact⟨hbl.os.trans h.os,hbl.tape.trans h.tape,hbl.output.trans h.output,Nat.le_trans h.size hbl.size,fun j j1 j2=>(hbl.block j j1).trans (h.block j j1 j2)⟩
    exact bodyPost_ret (v:=gu n A) (by simp[results,Tryz.results32,go_sem,x0,x1,x2,x3,x4,x5,x6,x7,x8]) rfl ⟨n,A,rfl,HS.sz,hat,HS.cur.below hbl hcl,hkk⟩
end Go.Proofs.YtacgbldlonoaaaaGreatDoor
