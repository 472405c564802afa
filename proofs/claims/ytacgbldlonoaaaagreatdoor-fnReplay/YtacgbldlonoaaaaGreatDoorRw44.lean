/- Parts. -/
import Derived.Test.YtacgbldlonoaaaaGreatDoorRw42
import Derived.Test.YtacgbldlonoaaaaGreatDoorRw31
import Derived.Test.YtacgbldlonoaaaaGreatDoorRw43
import Derived.Test.YtacgbldlonoaaaaGreatDoorRw23
namespace Go.Proofs.YtacgbldlonoaaaaGreatDoor
open Go.Proofs.Tryz
set_option maxHeartbeats 8000000
set_option maxRecDepth 100000
open Go.RowKit
open Mth
variable {w:World} {P:Program} {ops:Array Oper} {a:Act} {Q:Exit->Act->World->Prop} {md:Region.Mode} {fuel c g:Nat} {listed:Array Bool} {n:Nd} {A:bC}
theorem aeA (par:Int):eY (D7 1 par [2,3]).1 1048576/\(D7 1 par [2,3]).1.pu=[]:=by
 unfold D7;split
 .refine⟨⟨Aaz,Aaz,Aaz,?_,Aaz,λx hx=>Aci,λx hx=>Aci,λx hx=>?_,λx hx=>Aci⟩,rfl⟩
  .show(List.map _ (Nj (lN (dx 1 par [2,3] [])))).length<=1048576
   rw [List.length_map,ow];unfold lN dx;dsimp only;split<;>simp
  .obtain⟨y,_,rfl⟩:=List.mem_map.1 hx;simp
 .exact⟨⟨by simp[jv],by simp[jv],by simp[jv],by simp[jv],by simp[jv],λx hx=>by simp[jv] at hx,λx hx=>by simp[jv] at hx,λx hx=>by simp[jv] at hx,λx hx=>by simp[jv] at hx⟩,rfl⟩
theorem abV (w:World) (zs:List Int) (t:TypeId):dX (w.alloc (.cells (zs.map (Value.int .i64)).toArray t)) (some ⟨w.heap.size,0,none⟩) zs:=λi hi=>⟨w.heap.size,0,rfl,Aac,λj hj=>by
 have e:j=0:=Aaa
 subst e
 have h:=kE w zs t i hi
 rw [show 0+(i*1+0)=i by omega,h]
 rfl⟩
theorem uf.make {w2 V:World} (hcl:c < w.heap.size) (hc:qA w2 c) (hk:Keeps c w w2) (hres:w2.heap[w.heap.size]?=some (.cells fU 30 (0,0))) {L:Nat} (hL:w.heap.size < L) (hr:∃gk gs I col,Rx w2 A n gk gs I col/\∀x,x < L->col x=0) (hz:eY n 1048576) (hV:V=w2.alloc (.cells (dD n A) 30)):uf w c w2.heap.size n A V:=by
 have hr2:=aA hres;have hbl:aY w2 V:=by rw [hV];exact au w2 _
 refine⟨hc.keep_below hbl,hk.trans (Keeps.of_below hbl),hcl,hr2,by rw [hbl.block _ hr2];exact hres,?_,?_,hz⟩
 .rw [hV];exact heap_alloc_new w2 _
 .obtain⟨gk,gs,I,col,h,h0⟩:=hr;have hsm:∀x,x < w2.heap.size->(if x < w2.heap.size then col x else 0)=col x:=λx hx=>if_pos hx
  have Er:KC col 9 w2 V:=KC.of_below hbl;have lk:=Si h.k;obtain⟨l4,l5⟩:=jK h.s.w;refine⟨gk,gs,I,λx=>if x < w2.heap.size then col x else 0,⟨Er.w h.k h.ck Aaa,ES Er h.p h.cp Aaa,Er.own h.o h.co Aaa,Er.seenQ h.s h.c4 h.ci Aaa Aaa,Er.own h.r h.cr Aaa,λx hx=>(hsm x (lk x hx)).trans (h.ck x hx),λx hx hp=>?_,λx hx=>(hsm x (h.o.lt x hx).2).trans (h.co x hx),λx hx=>(hsm x (l4 x hx)).trans (h.c4 x hx),λx hx=>(hsm x (l5 x hx)).trans (h.ci x hx),λx hx=>(hsm x (h.r.lt x hx).2).trans (h.cr x hx),h.ni⟩,λx hx=>?_,if_neg (Nat.lt_irrefl _)⟩
  .obtain⟨g',off,e,hl,_⟩:=h.p 0 hp;have e2:x=g':=by rw [e] at hx;simpa using hx.symm
   exact(hsm x Aaa).trans (h.cp x hx hp)
  .exact(hsm x Aaa).trans (h0 x Aaa)
def wX:Option Value->Nat
 |some (.slice _ n _)=>50 - n
 |_=>0
theorem uf.did {W W5:World} {n':Nd} {A':bC} (h:uf w c g n A W) (hb:aY W W5) (hr:∀W'',Dr W W5 W''->RM W'' A' n') (hz:eY n' 1048576):
 uf w c g n' A' (GR.setW W5 g 0 (dD n' A').toList):=by
 have hgl:=aA h.own;have hrl:=aA h.res;have h5:=h.draw (h.cur.keep_below hb) (Keeps.of_below hb);have hz5:=hb.size;have hkp:=aK (g:=g) (dD n' A').toList W5 0;refine h5.far (hkp.below (λx hx=>by have:x=g:=Aag;have:=h.glt;omega) Aaa) ?_ ?_ hz
 .exact GR.setW_blk (dD n' A').toList (o:=0) (xs:=(dD n A).toList) h5.own
 .obtain⟨gk,gs,I,col,h1,h2⟩:=Dr.rm hr;exact⟨gk,gs,I,col,h1.kc (k:=0) (KC.setW _ (h2 g hgl)) (.inl rfl),λx hx=>h2 x Aaa,h2 g hgl⟩
theorem Ec (w:World) {o:Oper} {K:Act->World->Prop} {E:Prop} (hgd:o.guard=none) (s x:Operand) (t:TypeId)
 (ho:o.op= .call {callee:= .builtin .append,args:=#[s,x],argTypes:=#[t,t]}) (vs vx:Value) (hs:a.eval s=vs) (hx:a.eval x=vx) (v':Value) (w':World)
 (hr:(Builtin.append_ #[t,t] o.type #[vs,vx]).run P w= .ok v' w') (h:K (a.put o.dst v') w'):if Region.wanted o (yielded ops a.tmps)=true then Oper.wp P o a w K Q else E:=by
 have hw:Region.wanted o (yielded ops a.tmps)=true:=by simp[Region.wanted,hgd]
 rw [if_pos hw];exact Lib.wp_append_run w s x t t ho vs vx hs hx v' w' hr h
theorem EA {n:Nat} (h:∀Y,aY w Y->wpAny P md ops Q fuel listed a Y):wpAny P md ops Q fuel listed a {w with drawn:=n}:=h _ ⟨rfl,rfl,rfl,Nat.le_refl _,λ_ _=>rfl⟩
theorem qX (i j:Nat) {oi oj:Oper} (hi:ops[i]?=some oi) (hj:ops[j]?=some oj) (hr:Region.ready md ops listed=[i,j]) (hwi:Region.wanted oi (yielded ops a.tmps)=true) (hwj:Region.wanted oj (yielded ops a.tmps)=true) (h1:oi.wp P a w (wpAny P md ops Q fuel (listed.setIfInBounds i true)) Q) (h2:oj.wp P a w (wpAny P md ops Q fuel (listed.setIfInBounds j true)) Q):wpAny P md ops Q (fuel+1) listed a w:=by
 refine⟨λh=>(by rw [hr] at h;cases h),λk hk=>?_⟩;rw [hr] at hk;simp only[List.mem_cons,List.not_mem_nil,or_false] at hk;unfold wpOp;rcases hk with rfl|rfl
 .simp only[hi];rw [if_pos hwi];exact .inl h1
 .simp only[hj];rw [if_pos hwj];exact .inl h2
theorem aex (c:Nat) (w:World) (hc:qA w c):Calls prog 32 #[.pointer (some ⟨c,0,none⟩)] w λe w'=>∃n A,e= .returned (fT n A)/\eY n 1048576/\(∀W'',Dr w w' W''->bQ W'' A n)/\qA w' c/\Keeps c w w':=by
 have hcl:=hc.lt;have HC:=Hq hc;clear hc;go_in
 go_wp2_with fail;generalize hwa:w.alloc (.cells fU 30)=wa at *;have abF:wa.heap.size=w.heap.size+1:=by rw [<-hwa];simp
 have VY:=Hq (show qA wa c by rw [<-hwa];exact jg HC _);have HKA:=Hq (show Keeps c w wa by rw [<-hwa];exact mD _);have rT:=Hq (show wa.heap[w.heap.size]?=some (.cells fU 30 (0,0)) by rw [<-hwa];exact heap_alloc_new w _);clear hwa HC;have xL:=Hq (jm c (w.heap.size+1) 3 [0,0,-1] _ (jg VY (.cells (([0,0,-1]:List Int).map (Value.int .i64)).toArray 3)) Aaa Aae Aae (λi hi=>by rw [<-abF];exact kE wa [0,0,-1] _ i hi) Aaf);refine xL.mono ?_;clear xL;rintro e w1 ⟨par,rfl,hpar,hc1,hk1⟩;have xE:=Hq hc1;have Jq:=Hq ((HKA.trans (mD _)).trans hk1);have HR1:=Hq (show w1.heap[w.heap.size]?=some (.cells fU 30 (0,0)) by rw [hk1.block _ Aaf Aaa,Below.heap_alloc _ _ _ Aaa];exact rT);clear hc1 hk1 VY HKA rT hpar;obtain⟨HZ,HPU⟩:=aeA par;have hr1:=aA HR1;have Rp:=Hq (M7 1 par (some ⟨w1.heap.size,0,none⟩) 2 [2,3] (w1.alloc (.cells (([2,3]:List Int).map (Value.int .i64)).toArray 3)) Aac (λe=>by cases e) (abV w1 [2,3] 3));generalize D7 1 par [2,3]=R at *;go_wp2_with fail;refine Rp.mono ?_;clear Rp;rintro e w2 ⟨A,rfl,hrm,hb2,hAp,hAc⟩;have HRM:=Hq hrm;have oI:=Hq ((jg xE (.cells (([2,3]:List Int).map (Value.int .i64)).toArray 3)).keep_below hb2);have qY:=Hq ((Jq.trans (mD (.cells (([2,3]:List Int).map (Value.int .i64)).toArray 3))).trans (Keeps.of_below hb2));have HR2:=Hq (show w2.heap[w.heap.size]?=some (.cells fU 30 (0,0)) by rw [hb2.block _ Aaf,Below.heap_alloc _ _ _ Aaa];exact HR1);have HZ2:=Hq HZ;have aiD:=Hq HPU;clear hrm hb2 xE Jq HR1 HZ HPU;obtain⟨n,ok⟩:=R;obtain⟨ayu,aif,ace,acf,aC0,aie,ach,aic,acg⟩:=n;obtain⟨a_k,jE,eD,eO,gN,aL,bE,aP,aM,aV⟩:=A;dsimp only at hAp hAc aiD;have hPn:=ah aiD;subst hAp hAc hPn;clear aiD;go_upto_region 2 with fail;refine wp_at (λV0 hV=>?_);have HS:=Hq (uf.make (V:=V0) (L:=w1.heap.size+1) hcl oI qY HR2 Aaa (by obtain⟨gk,gs,I,col,h1,h2⟩:=ah HRM;exact⟨gk,gs,I,col,h1,λx hx=>h2 x Aag⟩) HZ2 hV);clear hV oI qY HR2 HZ2 HRM hr1 abF;generalize w2.heap.size=g at *;obtain⟨c0,c1,c2,c3,c4,c5,c6,c7,c8⟩:=nine HS.own;go_cut [3] (λp wx=>p= .pointer (some ⟨g,0,none⟩)/\∃n A,uf w c g n A wx)
 case first=>
  refine wp_region_any Aab ?_;show wpAny _ _ _ _ 11 (Array.replicate 11 false) _ _
  refine EA (λY hY=>?_);have Bg:=Hq (HS.draw (HS.cur.keep_below hY) (Keeps.of_below hY));clear hY HS c0 c1 c2 c3 c4 c5 c6 c7 c8;obtain⟨c0,c1,c2,c3,c4,c5,c6,c7,c8⟩:=nine Bg.own;refine bZ 0 rfl Aab Aab Aab (λ_ _ _ _ h=>h) (λK hK=>?_);go_simp
  first
   |(refine hK _ ?_;clear hK K)
   |(apply Exists.intro
     refine⟨λ_=>rfl,hK _ ?_⟩
     clear hK K)
  refine bZ 2 rfl Aab Aab Aab (λ_ _ _ _ h=>h) (λK hK=>?_);go_simp
  first
   |(refine hK _ ?_;clear hK K)
   |(apply Exists.intro
     refine⟨λ_=>rfl,hK _ ?_⟩
     clear hK K)
  refine qX 1 3 rfl rfl Aab Aad Aad ?_ ?_
  .go_simp;refine aF 3 rfl Aab Aad ?_;go_simp;refine(gM c 30 _ Bg.cur Aaa Aaa).mono ?_;rintro e w4 ⟨x,rfl,hx0,hx1,hc4,hk4⟩;have oJ:=Hq (Bg.draw hc4 hk4);clear hc4 hk4;obtain⟨d0,d1,d2,d3,d4,d5,d6,d7,d8⟩:=nine oJ.own;have hx2:IntKind.i64.wrap (1+x)=1+x:=IntWalk.i64_in _ ⟨Aaa,Aaa⟩;go_simp;refine bZ 4 rfl Aab Aab Aab (λ_ _ _ _ h=>h) (λK hK=>?_);go_simp
   first
    |(refine hK _ ?_;clear hK K)
    |(apply Exists.intro
      refine⟨λ_=>rfl,hK _ ?_⟩
      clear hK K)
   try rw [hx2]
   refine aF 5 rfl Aab Aad ?_;go_simp;refine(AL ⟨#[97]⟩ (1+x) w4 Aae ⟨Aaa,Aaa⟩).mono ?_;rintro e w5 ⟨v5,RL,b5,rfl,hRL,hRK,hown5,hb5⟩;obtain⟨a5,cp5,rfl,_⟩:=GR.own_at aX hown5;have xA:=Hq hown5;have iX:=Hq hb5;have HRK:=Hq hRK;have rY:=Hq (oJ.draw (oJ.cur.keep_below hb5) (Keeps.of_below hb5));clear hown5 hb5 hRK d0 d1 d2 d3 d4 d5 d6 d7 d8;obtain⟨e0,e1,e2,e3,e4,e5,e6,e7,e8⟩:=nine rY.own;have f4:=aj rY.own 4;go_simp;refine bZ 6 rfl Aab Aab Aab (λ_ _ _ _ h=>h) (λK hK=>?_);go_simp
   first
    |(refine hK _ ?_;clear hK K)
    |(apply Exists.intro
      refine⟨λ_=>rfl,hK _ ?_⟩
      clear hK K)
   refine bZ 7 rfl Aab Aab Aab (λ_ _ _ _ h=>h) (λK hK=>?_);go_simp
   first
    |(refine hK _ ?_;clear hK K)
    |(apply Exists.intro
      refine⟨λ_=>rfl,hK _ ?_⟩
      clear hK K)
   refine bZ 8 rfl Aab Aab Aab (λ_ _ _ _ h=>h) (λK hK=>?_);go_simp
   first
    |(refine hK _ ?_;clear hK K)
    |(apply Exists.intro
      refine⟨λ_=>rfl,hK _ ?_⟩
      clear hK K)
   refine bZ 9 rfl Aab Aab Aab (λ_ _ _ _ h=>h) (λK hK=>?_);go_simp
   first
    |(refine hK _ ?_;clear hK K)
    |(apply Exists.intro
      refine⟨λ_=>rfl,hK _ ?_⟩
      clear hK K)
   refine aF 10 rfl Aab Aad ?_;go_simp;refine wpAny_done Aab ?_;go_simp;go_wp2_with fail;go_meet
   case rel=>
    refine⟨rfl,⟨ayu,aif,ace,acf,RL,aie,ach,aic,acg⟩,⟨a_k,a5,eD,eO,gN,aL,cp5,aP,aM,aV⟩,?_⟩;refine rY.far ((Below.refl _ w5).setCell (p:=⟨g,4,none⟩) rY.glt _) (aT rY.own 4 _) ?_ ?_
    .exact(oJ.rm.pu (aA oJ.own) (aA oJ.res) iX (Nat.le_refl _) xA).set
    .have hz:=oJ.sz;exact⟨hz.k,by show RL.length<=1048576;omega,hz.o,hz.s,hz.r,λp hp=>Nat.le_trans (HRK p hp) Aaa,hz.ok,hz.sk,hz.rk⟩
  .go_simp;refine(gM c 30 _ Bg.cur Aaa Aaa).mono ?_;rintro e w4 ⟨x,rfl,hx0,hx1,hc4,hk4⟩;have oJ:=Hq (Bg.draw hc4 hk4);clear hc4 hk4;obtain⟨d0,d1,d2,d3,d4,d5,d6,d7,d8⟩:=nine oJ.own;have hx2:IntKind.i64.wrap (1+x)=1+x:=IntWalk.i64_in _ ⟨Aaa,Aaa⟩;go_simp;refine bZ 4 rfl Aab Aab Aab (λ_ _ _ _ h=>h) (λK hK=>?_);go_simp
   first
    |(refine hK _ ?_;clear hK K)
    |(apply Exists.intro
      refine⟨λ_=>rfl,hK _ ?_⟩
      clear hK K)
   refine aF 1 rfl Aab Aad ?_;go_simp;try rw [hx2]
   refine aF 5 rfl Aab Aad ?_;go_simp;refine(AL ⟨#[97]⟩ (1+x) w4 Aae ⟨Aaa,Aaa⟩).mono ?_;rintro e w5 ⟨v5,RL,b5,rfl,hRL,hRK,hown5,hb5⟩;obtain⟨a5,cp5,rfl,_⟩:=GR.own_at aX hown5;have xA:=Hq hown5;have iX:=Hq hb5;have HRK:=Hq hRK;have rY:=Hq (oJ.draw (oJ.cur.keep_below hb5) (Keeps.of_below hb5));clear hown5 hb5 hRK d0 d1 d2 d3 d4 d5 d6 d7 d8;obtain⟨e0,e1,e2,e3,e4,e5,e6,e7,e8⟩:=nine rY.own;have f4:=aj rY.own 4;go_simp;refine bZ 6 rfl Aab Aab Aab (λ_ _ _ _ h=>h) (λK hK=>?_);go_simp
   first
    |(refine hK _ ?_;clear hK K)
    |(apply Exists.intro
      refine⟨λ_=>rfl,hK _ ?_⟩
      clear hK K)
   refine bZ 7 rfl Aab Aab Aab (λ_ _ _ _ h=>h) (λK hK=>?_);go_simp
   first
    |(refine hK _ ?_;clear hK K)
    |(apply Exists.intro
      refine⟨λ_=>rfl,hK _ ?_⟩
      clear hK K)
   refine bZ 8 rfl Aab Aab Aab (λ_ _ _ _ h=>h) (λK hK=>?_);go_simp
   first
    |(refine hK _ ?_;clear hK K)
    |(apply Exists.intro
      refine⟨λ_=>rfl,hK _ ?_⟩
      clear hK K)
   refine bZ 9 rfl Aab Aab Aab (λ_ _ _ _ h=>h) (λK hK=>?_);go_simp
   first
    |(refine hK _ ?_;clear hK K)
    |(apply Exists.intro
      refine⟨λ_=>rfl,hK _ ?_⟩
      clear hK K)
   refine aF 10 rfl Aab Aad ?_;go_simp;refine wpAny_done Aab ?_;go_simp;go_wp2_with fail;go_meet
   case rel=>
    refine⟨rfl,⟨ayu,aif,ace,acf,RL,aie,ach,aic,acg⟩,⟨a_k,a5,eD,eO,gN,aL,cp5,aP,aM,aV⟩,?_⟩;refine rY.far ((Below.refl _ w5).setCell (p:=⟨g,4,none⟩) rY.glt _) (aT rY.own 4 _) ?_ ?_
    .exact(oJ.rm.pu (aA oJ.own) (aA oJ.res) iX (Nat.le_refl _) xA).set
    .have hz:=oJ.sz;exact⟨hz.k,by show RL.length<=1048576;omega,hz.o,hz.s,hz.r,λp hp=>Nat.le_trans (HRK p hp) Aaa,hz.ok,hz.sk,hz.rk⟩
 case rest=>
  obtain⟨rfl,n0,A0,hS⟩:=hcut;have HS:=Hq hS;clear hS;go_wp2_with fail;refine(gM c 24 _ HS.cur Aaa Aaa).mono ?_;rintro e wk ⟨k,rfl,hk0,hk1,hck,hkk⟩;have HSk:=Hq (HS.draw hck hkk);clear hck hkk HS;go_upto_block 0 with fail;go_cut [3] (λp wx=>p= .pointer (some ⟨g,0,none⟩)/\∃n A,uf w c g n A wx)
  case first=>
   go_wp2_with fail;go_loopw [6] (λi wr=>∃(q:Nat) (n:Nd) (A:bC),(q:Int)<=k/\i= .int .i64 q/\uf w c g n A wr) (λi _=>k.toNat - (intOf i).toNat)
   case atStart=>exact⟨0,n0,A0,Aaa,rfl,HSk⟩
   case round=>
    obtain⟨q,n,A,hq,rfl,hS⟩:=hrel;have HS:=Hq hS;clear hS HSk;by_cases hlt:(q:Int) < k
    .have hd:decide ((q:Int) < k)=true:=decide_eq_true hlt;go_upto_block 1 with fail;go_cut [3] (λp wx=>p= .pointer (some ⟨g,0,none⟩)/\∃n A,uf w c g n A wx)
     case first=>
      go_upto_region 7 with fail;refine wp_region_any Aab ?_;show wpAny _ _ _ _ 9 (Array.replicate 9 false) _ _
      refine EA (λY hY=>?_);have Bg:=Hq (HS.draw (HS.cur.keep_below hY) (Keeps.of_below hY));clear hY HS;obtain⟨c0,c1,c2,c3,c4,c5,c6,c7,c8⟩:=nine Bg.own;refine bZ 1 rfl Aab Aab Aab (λ_ _ _ _ h=>h) (λK hK=>?_);go_simp
      first
       |(refine hK _ ?_;clear hK K)
       |(apply Exists.intro
         refine⟨λ_=>rfl,hK _ ?_⟩
         clear hK K)
      refine qX 0 2 rfl rfl Aab Aad Aad ?_ ?_
      .go_simp;refine aF 2 rfl Aab Aad ?_;go_simp;refine(ab5 c _ Bg.cur).mono ?_;rintro e w4 ⟨⟨K,no,ky,nn,⟨mK,mF,mT,mI,mL,mk,mN⟩⟩,rfl,hky,hmk,hc4,hk4⟩;dsimp only at hky hmk;have oJ:=Hq (Bg.draw hc4 hk4);clear hc4 hk4;obtain⟨d0,d1,d2,d3,d4,d5,d6,d7,d8⟩:=nine oJ.own;have RY:=Hq (yS n A K no ky nn mK mF mT mI mL mk mN w4 oJ.sz Aaa Aaa oJ.at);have HDZ:=Hq (aa5 (o:=⟨K,no,ky,nn,⟨mK,mF,mT,mI,mL,mk,mN⟩⟩) oJ.sz);generalize O3 n ⟨K,no,ky,nn,⟨mK,mF,mT,mI,mL,mk,mN⟩⟩=R at *;go_simp;refine aF 3 rfl Aab Aad ?_;go_simp;refine RY.mono ?_;clear RY;rintro e w5 ⟨A',a',cp',rfl,hrm,_,hb5⟩;have HRM:=Hq hrm;have iX:=Hq hb5;have rY:=Hq (oJ.draw (oJ.cur.keep_below hb5) (Keeps.of_below hb5));clear hrm hb5 d0 d1 d2 d3 d4 d5 d6 d7 d8;obtain⟨e0,e1,e2,e3,e4,e5,e6,e7,e8⟩:=nine rY.own;have f0:=aj rY.own 0;have f1:=aj rY.own 1;have f2:=aj rY.own 2;have f3:=aj rY.own 3;have f4:=aj rY.own 4;have f5:=aj rY.own 5;have f6:=aj rY.own 6;have f7:=aj rY.own 7;have f8:=aj rY.own 8;have aya:=aA rY.own;go_simp;refine bZ 4 rfl Aab Aab Aab (λ_ _ _ _ h=>h) (λK hK=>?_);go_simp
       first
        |(refine hK _ ?_;clear hK K)
        |(apply Exists.intro
          refine⟨λ_=>rfl,hK _ ?_⟩
          clear hK K)
       refine bZ 5 rfl Aab Aab Aab (λ_ _ _ _ h=>h) (λK hK=>?_);go_simp
       first
        |(refine hK _ ?_;clear hK K)
        |(apply Exists.intro
          refine⟨λ_=>rfl,hK _ ?_⟩
          clear hK K)
       refine bZ 6 rfl Aab Aab Aab (λ_ _ _ _ h=>h) (λK hK=>?_);go_simp
       first
        |(refine hK _ ?_;clear hK K)
        |(apply Exists.intro
          refine⟨λ_=>rfl,hK _ ?_⟩
          clear hK K)
       refine bZ 7 rfl Aab Aab Aab (λ_ _ _ _ h=>h) (λK hK=>?_);go_simp
       first
        |(refine hK _ ?_;clear hK K)
        |(apply Exists.intro
          refine⟨λ_=>rfl,hK _ ?_⟩
          clear hK K)
       refine aF 8 rfl Aab Aad ?_;go_simp;refine wpAny_done Aab ?_;go_simp;go_wp2_with fail;go_meet
       case rel=>exact⟨rfl,R.1,A',oJ.did iX HRM HDZ⟩
      .go_simp;refine(ab5 c _ Bg.cur).mono ?_;rintro e w4 ⟨⟨K,no,ky,nn,⟨mK,mF,mT,mI,mL,mk,mN⟩⟩,rfl,hky,hmk,hc4,hk4⟩;dsimp only at hky hmk;have oJ:=Hq (Bg.draw hc4 hk4);clear hc4 hk4;obtain⟨d0,d1,d2,d3,d4,d5,d6,d7,d8⟩:=nine oJ.own;have RY:=Hq (yS n A K no ky nn mK mF mT mI mL mk mN w4 oJ.sz Aaa Aaa oJ.at);have HDZ:=Hq (aa5 (o:=⟨K,no,ky,nn,⟨mK,mF,mT,mI,mL,mk,mN⟩⟩) oJ.sz);generalize O3 n ⟨K,no,ky,nn,⟨mK,mF,mT,mI,mL,mk,mN⟩⟩=R at *;go_simp;refine aF 0 rfl Aab Aad ?_;go_simp;refine aF 3 rfl Aab Aad ?_;go_simp;refine RY.mono ?_;clear RY;rintro e w5 ⟨A',a',cp',rfl,hrm,_,hb5⟩;have HRM:=Hq hrm;have iX:=Hq hb5;have rY:=Hq (oJ.draw (oJ.cur.keep_below hb5) (Keeps.of_below hb5));clear hrm hb5 d0 d1 d2 d3 d4 d5 d6 d7 d8;obtain⟨e0,e1,e2,e3,e4,e5,e6,e7,e8⟩:=nine rY.own;have f0:=aj rY.own 0;have f1:=aj rY.own 1;have f2:=aj rY.own 2;have f3:=aj rY.own 3;have f4:=aj rY.own 4;have f5:=aj rY.own 5;have f6:=aj rY.own 6;have f7:=aj rY.own 7;have f8:=aj rY.own 8;have aya:=aA rY.own;go_simp;refine bZ 4 rfl Aab Aab Aab (λ_ _ _ _ h=>h) (λK hK=>?_);go_simp
       first
        |(refine hK _ ?_;clear hK K)
        |(apply Exists.intro
          refine⟨λ_=>rfl,hK _ ?_⟩
          clear hK K)
       refine bZ 5 rfl Aab Aab Aab (λ_ _ _ _ h=>h) (λK hK=>?_);go_simp
       first
        |(refine hK _ ?_;clear hK K)
        |(apply Exists.intro
          refine⟨λ_=>rfl,hK _ ?_⟩
          clear hK K)
       refine bZ 6 rfl Aab Aab Aab (λ_ _ _ _ h=>h) (λK hK=>?_);go_simp
       first
        |(refine hK _ ?_;clear hK K)
        |(apply Exists.intro
          refine⟨λ_=>rfl,hK _ ?_⟩
          clear hK K)
       refine bZ 7 rfl Aab Aab Aab (λ_ _ _ _ h=>h) (λK hK=>?_);go_simp
       first
        |(refine hK _ ?_;clear hK K)
        |(apply Exists.intro
          refine⟨λ_=>rfl,hK _ ?_⟩
          clear hK K)
       refine aF 8 rfl Aab Aad ?_;go_simp;refine wpAny_done Aab ?_;go_simp;go_wp2_with fail;go_meet
       case rel=>exact⟨rfl,R.1,A',oJ.did iX HRM HDZ⟩
     case rest=>
      obtain⟨rfl,n',A',hS'⟩:=hcut;have HS':=Hq hS';clear hS';go_wp2_with fail;go_roundw
      case rel=>exact⟨q+1,n',A',Aaa,Aai,HS'⟩
      case measure=>simp[intOf];omega
    .have hd:decide ((q:Int) < k)=false:=decide_eq_false hlt;go_wp2_with fail;go_meet
     case rel=>exact⟨rfl,n,A,HS⟩
  case rest=>
   obtain⟨rfl,n1,A1,hS⟩:=hcut;have HS:=Hq hS;clear hS;go_wp2_with fail;refine(gM c 24 _ HS.cur Aaa Aaa).mono ?_;rintro e wz ⟨z,rfl,hz0,hz1,hcz,hkz⟩;have BH:=Hq (HS.draw hcz hkz);clear hcz hkz HS;go_upto_block 2 with fail;go_cut [3] (λp wx=>p= .pointer (some ⟨g,0,none⟩)/\∃n A,uf w c g n A wx)
   case first=>
    have hzc:z=0\/z=1\/z=2\/z=3\/z=4\/z=5\/5 < z:=Aaa
    rcases hzc with rfl|rfl|rfl|rfl|rfl|rfl|hz5
    .have xL:=Hq (jm c wz.heap.size 4 [1,2,30,-2] _ (jg BH.cur (.cells (([1,2,30,-2]:List Int).map (Value.int .i64)).toArray 3)) (by have:=BH.cur.lt;omega) Aae Aae (λi hi=>kE wz [1,2,30,-2] _ i hi) Aac);go_wp2_with fail;refine xL.mono ?_;clear xL;rintro e wp ⟨y,rfl,_,hcx,hkx⟩;have HS2:=Hq ((BH.new _).draw hcx hkx);clear hcx hkx BH;obtain⟨c0,c1,c2,c3,c4,c5,c6,c7,c8⟩:=nine HS2.own;have ff:=aj HS2.own 1;have hgl:=aA HS2.own;go_wp2_with fail;go_meet
     case rel=>exact⟨rfl,{n1 with par:=y},A1,HS2.put 1 (.int .i64 y) rfl rfl rfl rfl rfl rfl⟩
    .have xL:=Hq (jm c wz.heap.size 3 [0,1,1000000000] _ (jg BH.cur (.cells (([0,1,1000000000]:List Int).map (Value.int .i64)).toArray 3)) (by have:=BH.cur.lt;omega) Aae Aae (λi hi=>kE wz [0,1,1000000000] _ i hi) Aac);go_wp2_with fail;refine xL.mono ?_;clear xL;rintro e wp ⟨y,rfl,_,hcx,hkx⟩;have HS2:=Hq ((BH.new _).draw hcx hkx);clear hcx hkx BH;obtain⟨c0,c1,c2,c3,c4,c5,c6,c7,c8⟩:=nine HS2.own;have ff:=aj HS2.own 3;have hgl:=aA HS2.own;go_wp2_with fail;go_meet
     case rel=>exact⟨rfl,{n1 with next:=y},A1,HS2.put 3 (.int .i64 y) rfl rfl rfl rfl rfl rfl⟩
    .go_wp2_with fail;go_loopw [64] (λ_ wr=>∃n A,uf w c g n A wr) (λ_ wr=>wX (wr.cell? ⟨g,5,none⟩))
     case atStart=>exact⟨n1,A1,BH⟩
     case round=>
      obtain⟨n,A,hS⟩:=hrel;have HS:=Hq hS;clear hS BH;obtain⟨c0,c1,c2,c3,c4,c5,c6,c7,c8⟩:=nine HS.own;have HM:=Hq c5;go_upto_region 14 with fail
      go_region_held (λw'=>w'.cell? ⟨g,5,none⟩=some (.slice A.o n.out.length A.co)) (go_keep)
       (first|(go_at_call 44;refine(gM _ 2 _ ?_ Aaa Aaa).mono ?_;exact HS.cur;rintro e w4 ⟨x,rfl,hx0,hx1,hc4,hk4⟩;have oJ:=Hq (HS.draw hc4 ⟨hk4.os,hk4.tape,hk4.output,hk4.size,hk4.block⟩);clear hc4 hk4;obtain⟨d0,d1,d2,d3,d4,d5,d6,d7,d8⟩:=nine oJ.own;have hx2:IntKind.i64.wrap (40+x)=40+x:=IntWalk.i64_in _ ⟨Aaa,Aaa⟩))
      all_goals
       clear c0 c1 c2 c3 c4 c5 c6 c7 c8
       by_cases hlt:(n.out.length:Int) < 40+x
       .have hd:decide ((n.out.length:Int) < 40+x)=true:=decide_eq_true hlt;obtain⟨a',cp',w5,hrun,hbg,hS5⟩:=(oJ.new (.cells (fI n.next 2 ⟨#[97]⟩ 1) 95)).outPut ⟨n.next,2,⟨#[97]⟩,1⟩ (by show(⟨#[97]⟩:ByteArray).size<=1048576;decide) w4.heap.size (heap_alloc_new w4 _) Aaa;have rY:=Hq hS5;have hown5:w5.heap[g]?=some (.cells (dD n A) 30 (0,0)):=hbg.trans (oJ.new _).own;obtain⟨e0,e1,e2,e3,e4,e5,e6,e7,e8⟩:=nine hown5;have f5:=aj hown5 5;have aya:=aA hown5;obtain⟨k0,k1,k2,k3,k4,k5,k6,k7,k8⟩:=nine hS5.own;have g3:=aj hS5.own 3;have aBe:=aA hS5.own;clear hS5 hown5 hbg;go_wp2_with (at_builtin;refine gu rfl _ _ 26 rfl _ _ rfl rfl _ _ hrun ?_)
        go_roundw
        case rel=>exact⟨_,_,rY.put (n':={n with out:=n.out++[⟨n.next,2,⟨#[97]⟩,1⟩],next:=wrap64 (n.next+1)}) 3 (.int .i64 (wrap64 (n.next+1))) rfl rfl rfl rfl rfl rfl⟩
        case measure=>
         have hm:=ah HM;rw [hm];have e:=(rY.put (n':={n with out:=n.out++[⟨n.next,2,⟨#[97]⟩,1⟩],next:=wrap64 (n.next+1)}) 3 (.int .i64 (wrap64 (n.next+1))) rfl rfl rfl rfl rfl rfl).own;rw [(nine e).2.2.2.2.2.1];simp[wX];omega
       .have hd:decide ((n.out.length:Int) < 40+x)=false:=decide_eq_false hlt;go_wp2_with fail;go_meet
        case rel=>exact⟨rfl,n,A,oJ⟩
    .go_wp2_with fail;go_loopw [7] (λi wr=>∃(q:Nat) (n:Nd) (A:bC),i= .int .i64 q/\q<=n.reqs.length/\uf w c g n A wr) (λ_ wr=>wX (wr.cell? ⟨g,8,none⟩))
     case atStart=>exact⟨0,n1,A1,rfl,Nat.zero_le _,BH⟩
     case round=>
      obtain⟨q,n,A,rfl,hq,hS⟩:=hrel;have HS:=Hq hS;clear hS BH;obtain⟨c0,c1,c2,c3,c4,c5,c6,c7,c8⟩:=nine HS.own;have HM:=Hq c8;go_upto_region 19 with fail
      go_region_held (λw'=>w'.cell? ⟨g,8,none⟩=some (.slice A.r n.reqs.length A.cr)) (go_keep)
       (first|(go_at_call 44;refine(gM _ 2 _ ?_ Aaa Aaa).mono ?_;exact HS.cur;rintro e w4 ⟨x,rfl,hx0,hx1,hc4,hk4⟩;have oJ:=Hq (HS.draw hc4 ⟨hk4.os,hk4.tape,hk4.output,hk4.size,hk4.block⟩);clear hc4 hk4;obtain⟨d0,d1,d2,d3,d4,d5,d6,d7,d8⟩:=nine oJ.own;have hx2:IntKind.i64.wrap (30+x)=30+x:=IntWalk.i64_in _ ⟨Aaa,Aaa⟩))
      all_goals
       clear c0 c1 c2 c3 c4 c5 c6 c7 c8
       by_cases hlt:(n.reqs.length:Int) < 30+x
       .have hd:decide ((n.reqs.length:Int) < 30+x)=true:=decide_eq_true hlt;have hq2:IntKind.i64.wrap (100+(q:Int))=100+q:=IntWalk.i64_in _ ⟨Aaa,Aaa⟩;clear d0 d1 d2 d3 d4 d5 d6 d7 d8;go_upto_block 6 with fail;go_cut [3] (λp wx=>p= .pointer (some ⟨g,0,none⟩)/\∃(n':Nd) (A':bC),uf w c g n' A' wx/\n'.reqs.length=n.reqs.length+1)
        case first=>
         go_upto_region 21 with fail;refine wp_region_any Aab ?_;show wpAny _ _ _ _ 11 (Array.replicate 11 false) _ _
         refine EA (λY hY=>?_);have Bg:=Hq (oJ.draw (oJ.cur.keep_below hY) (Keeps.of_below hY));clear hY oJ;obtain⟨c0,c1,c2,c3,c4,c5,c6,c7,c8⟩:=nine Bg.own;refine bZ 0 rfl Aab Aab Aab (λ_ _ _ _ h=>h) (λK hK=>?_);go_simp
         first
          |(refine hK _ ?_;clear hK K)
          |(apply Exists.intro
            refine⟨λ_=>rfl,hK _ ?_⟩
            clear hK K)
         refine bZ 2 rfl Aab Aab Aab (λ_ _ _ _ h=>h) (λK hK=>?_);go_simp
         first
          |(refine hK _ ?_;clear hK K)
          |(apply Exists.intro
            refine⟨λ_=>rfl,hK _ ?_⟩
            clear hK K)
         refine bZ 3 rfl Aab Aab Aab (λ_ _ _ _ h=>h) (λK hK=>?_);go_simp
         first
          |(refine hK _ ?_;clear hK K)
          |(apply Exists.intro
            refine⟨λ_=>rfl,hK _ ?_⟩
            clear hK K)
         try simp only[hq2]
         refine bZ 4 rfl Aab Aab Aab (λ_ _ _ _ h=>h) (λK hK=>?_);go_simp
         first
          |(refine hK _ ?_;clear hK K)
          |(apply Exists.intro
            refine⟨λ_=>rfl,hK _ ?_⟩
            clear hK K)
         refine qX 1 5 rfl rfl Aab Aad Aad ?_ ?_
         .go_simp;refine aF 5 rfl Aab Aad ?_;go_simp;refine(gM c 4 _ Bg.cur Aaa Aaa).mono ?_;rintro e w6 ⟨y,rfl,hy0,hy1,hc6,Lu⟩;have KU:=Hq (Bg.draw hc6 Lu);clear hc6 Lu;obtain⟨d0,d1,d2,d3,d4,d5,d6,d7,d8⟩:=nine KU.own;obtain⟨k0,k1,k2,k3,k4,k5,k6,k7,k8⟩:=nine (KU.new (.cells (eG (100+q) ⟨#[97]⟩ 1 y) 97)).own;obtain⟨a',cp',w7,hrun,hbg,hS7⟩:=(KU.new (.cells (eG (100+q) ⟨#[97]⟩ 1 y) 97)).reqsPut ⟨100+q,⟨#[97]⟩,1,y⟩ (by show(⟨#[97]⟩:ByteArray).size<=1048576;decide) w6.heap.size (heap_alloc_new w6 _) Aaa;have Wu:=Hq hS7;have nu:w7.heap[g]?=some (.cells (dD n A) 30 (0,0)):=hbg.trans (KU.new _).own;obtain⟨e0,e1,e2,e3,e4,e5,e6,e7,e8⟩:=nine nu;have f8:=aj nu 8;have aBf:=aA nu;clear hS7 nu hbg;go_simp;refine bZ 6 rfl Aab Aab Aab (λ_ _ _ _ h=>h) (λK hK=>?_);go_simp
          first
           |(refine hK _ ?_;clear hK K)
           |(apply Exists.intro
             refine⟨λ_=>rfl,hK _ ?_⟩
             clear hK K)
          refine aF 7 rfl Aab Aad ?_;go_simp;refine aF 8 rfl Aab Aad ?_;refine Lib.wp_append_run _ (.tmp 89) (.tmp 95) 28 28 rfl _ _ Aaj Aaj _ _ hrun ?_;go_simp;refine bZ 9 rfl Aab Aab Aab (λ_ _ _ _ h=>h) (λK hK=>?_);go_simp
          first
           |(refine hK _ ?_;clear hK K)
           |(apply Exists.intro
             refine⟨λ_=>rfl,hK _ ?_⟩
             clear hK K)
          refine aF 10 rfl Aab Aad ?_;go_simp;refine wpAny_done Aab ?_;go_simp;go_wp2_with fail;go_meet
          case rel=>exact⟨rfl,_,_,Wu,Aac⟩
         .go_simp;refine(gM c 4 _ Bg.cur Aaa Aaa).mono ?_;rintro e w6 ⟨y,rfl,hy0,hy1,hc6,Lu⟩;have KU:=Hq (Bg.draw hc6 Lu);clear hc6 Lu;obtain⟨d0,d1,d2,d3,d4,d5,d6,d7,d8⟩:=nine KU.own;obtain⟨k0,k1,k2,k3,k4,k5,k6,k7,k8⟩:=nine (KU.new (.cells (eG (100+q) ⟨#[97]⟩ 1 y) 97)).own;obtain⟨a',cp',w7,hrun,hbg,hS7⟩:=(KU.new (.cells (eG (100+q) ⟨#[97]⟩ 1 y) 97)).reqsPut ⟨100+q,⟨#[97]⟩,1,y⟩ (by show(⟨#[97]⟩:ByteArray).size<=1048576;decide) w6.heap.size (heap_alloc_new w6 _) Aaa;have Wu:=Hq hS7;have nu:w7.heap[g]?=some (.cells (dD n A) 30 (0,0)):=hbg.trans (KU.new _).own;obtain⟨e0,e1,e2,e3,e4,e5,e6,e7,e8⟩:=nine nu;have f8:=aj nu 8;have aBf:=aA nu;clear hS7 nu hbg;go_simp;refine bZ 6 rfl Aab Aab Aab (λ_ _ _ _ h=>h) (λK hK=>?_);go_simp
          first
           |(refine hK _ ?_;clear hK K)
           |(apply Exists.intro
             refine⟨λ_=>rfl,hK _ ?_⟩
             clear hK K)
          refine qX 1 7 rfl rfl Aab Aad Aad ?_ ?_
          .go_simp;refine aF 7 rfl Aab Aad ?_;go_simp;refine aF 8 rfl Aab Aad ?_;refine Lib.wp_append_run _ (.tmp 89) (.tmp 95) 28 28 rfl _ _ Aaj Aaj _ _ hrun ?_;go_simp;refine bZ 9 rfl Aab Aab Aab (λ_ _ _ _ h=>h) (λK hK=>?_);go_simp
           first
            |(refine hK _ ?_;clear hK K)
            |(apply Exists.intro
              refine⟨λ_=>rfl,hK _ ?_⟩
              clear hK K)
           refine aF 10 rfl Aab Aad ?_;go_simp;refine wpAny_done Aab ?_;go_simp;go_wp2_with fail;go_meet
           case rel=>exact⟨rfl,_,_,Wu,Aac⟩
          .go_simp;refine aF 1 rfl Aab Aad ?_;go_simp;refine aF 8 rfl Aab Aad ?_;refine Lib.wp_append_run _ (.tmp 89) (.tmp 95) 28 28 rfl _ _ Aaj Aaj _ _ hrun ?_;go_simp;refine bZ 9 rfl Aab Aab Aab (λ_ _ _ _ h=>h) (λK hK=>?_);go_simp
           first
            |(refine hK _ ?_;clear hK K)
            |(apply Exists.intro
              refine⟨λ_=>rfl,hK _ ?_⟩
              clear hK K)
           refine aF 10 rfl Aab Aad ?_;go_simp;refine wpAny_done Aab ?_;go_simp;go_wp2_with fail;go_meet
           case rel=>exact⟨rfl,_,_,Wu,Aac⟩
        case rest=>
         obtain⟨rfl,n',A',hS',hl'⟩:=hcut;have HS':=Hq hS';clear hS' oJ HS;go_wp2_with fail;go_roundw
         case rel=>exact⟨q+1,n',A',Aai,Aaa,HS'⟩
         case measure=>
          rw [ah HM,(nine (ah HS').own).2.2.2.2.2.2.2.2];simp[wX];omega
       .have hd:decide ((n.reqs.length:Int) < 30+x)=false:=decide_eq_false hlt;go_wp2_with fail;go_meet
        case rel=>exact⟨rfl,n,A,oJ⟩
    .by_cases hp:0 < n1.seen.length
     .obtain⟨gs,b0,cc0,hA,aCp,ajx,aCr,_,_,_⟩:=BH.seen0 hp;have hdp:decide ((0:Int) < (n1.seen.length:Int))=true:=decide_eq_true Aaa;obtain⟨c0,c1,c2,c3,c4,c5,c6,c7,c8⟩:=nine BH.own;have HA:=Hq hA;clear hA ajx;go_wp2_with fail;clear c0 c1 c2 c3 c4 c5 c6 c7 c8;go_loopw [8] (λi wr=>∃(q:Nat) (n:Nd) (hp:0 < n.seen.length),i= .int .i64 q/\q<=n.seen[0].ids.length/\uf w c g n A1 wr) (λ_ wr=>wX (wr.cell? ⟨gs,2,none⟩))
      case atStart=>exact⟨0,n1,hp,rfl,Nat.zero_le _,BH⟩
      case round=>
       obtain⟨q,n,hpn,rfl,hq,hS⟩:=hrel;have HS:=Hq hS;clear hS BH;obtain⟨gs',b,cc,hA',_,ajx,_,hcell,hfree,hall⟩:=HS.seen0 hpn;have eg:gs'=gs:=by have h:=hA'.symm.trans HA;simpa using h
       subst eg;have mU:=Hq hall;have HM:=Hq hcell;clear hall hA';obtain⟨c0,c1,c2,c3,c4,c5,c6,c7,c8⟩:=nine HS.own;rw [ah HA] at c6;have hgl:=aA HS.own;by_cases hlt:(n.seen[0].ids.length:Int) < 40
       .have hd:decide ((n.seen[0].ids.length:Int) < 40)=true:=decide_eq_true hlt;have hq2:IntKind.i64.wrap (100+(q:Int))=100+q:=IntWalk.i64_in _ ⟨Aaa,Aaa⟩;go_upto_block 8 with fail;go_cut [3] (λp wx=>p= .pointer (some ⟨g,0,none⟩)/\∃(n':Nd) (hp':0 < n'.seen.length),uf w c g n' A1 wx/\n'.seen[0].ids.length=n.seen[0].ids.length+1)
        case first=>
         go_upto_region 27 with fail;refine wp_at (λW hW=>?_);subst hW;obtain⟨g2,cq,w7,hrun,hbw,hbg,hbs,hN⟩:=ah mU (W.drew.alloc (.cells #[.int .i64 (100+q)] 3)) W.heap.size (100+q) 24 (by exact⟨rfl,rfl,rfl,Aac,λk hk=>by first|rfl|exact Below.heap_alloc _ _ _ hk⟩) (heap_alloc_new W.drew _) Aaa;have nu:w7.heap[g]?=some (.cells (dD n A1) 30 (0,0)):=hbg.trans HS.own;obtain⟨e0,e1,e2,e3,e4,e5,e6,e7,e8⟩:=nine nu;rw [ah HA] at e6;have x2:w7.cell? ⟨gs',2,none⟩=some (.slice b n.seen[0].ids.length cc):=(World.cell?_of_block (w:=W) hbs).trans hcell;have xf:w7.frozen? ⟨gs',2,none⟩=false:=(World.frozen?_of_block (w:=W) hbs).trans hfree;have hn1:g≠W.heap.size:=Aaa
         have hn2:W.heap.size≠g:=Aaa
         have hn3:gs'≠W.heap.size:=Aaa
         have hn4:W.heap.size≠gs':=Aaa
         have hz7:=hbw.size;have HN:=Hq (hN w7 (Below.refl _ _));clear hN hbw hbg hbs nu mU e0 e1 e2 e3 e4 e5 e7 e8 c0 c1 c2 c3 c4 c5 c7 c8
         go_region_law
          (refine Ec _ rfl (.tmp 119) (.tmp 122) 24 rfl _ _ Aaj Aaj _ _ hrun ?_)
         all_goals
          go_wp2_with fail
          go_meet
          case rel=>exact⟨rfl,_,by simpa [dA] using hpn,HN,by simp[dA]⟩
        case rest=>
         obtain⟨rfl,n',hp',hS',hl'⟩:=hcut;obtain⟨gs2,b2,GX,hA2,_,_,_,hcell2,_,_⟩:=hS'.seen0 hp';have eg:gs2=gs':=by have h:=hA2.symm.trans HA;simpa using h
         subst eg;have HS':=Hq hS';have HM2:=Hq hcell2;clear hS' HS hcell2;go_wp2_with fail;go_roundw
         case rel=>exact⟨q+1,n',hp',Aai,Aaa,HS'⟩
         case measure=>
          rw [ah HM,ah HM2];simp[wX];omega
       .have hd:decide ((n.seen[0].ids.length:Int) < 40)=false:=decide_eq_false hlt;go_wp2_with fail;go_meet
        case rel=>exact⟨rfl,n,A1,HS⟩
     .have hdp:decide ((0:Int) < (n1.seen.length:Int))=false:=decide_eq_false Aaa;obtain⟨c0,c1,c2,c3,c4,c5,c6,c7,c8⟩:=nine BH.own;go_wp2_with fail;go_meet
      case rel=>exact⟨rfl,n1,A1,BH⟩
    .have xL:=Hq (jm c wz.heap.size 3 [-1,5,1000000000] _ (jg BH.cur (.cells (([-1,5,1000000000]:List Int).map (Value.int .i64)).toArray 3)) (by have:=BH.cur.lt;omega) Aae Aae (λi hi=>kE wz [-1,5,1000000000] _ i hi) Aac);go_wp2_with fail;refine xL.mono ?_;clear xL;rintro e wp ⟨y,rfl,_,hcx,hkx⟩;have HS2:=Hq ((BH.new _).draw hcx hkx);clear hcx hkx BH;obtain⟨c0,c1,c2,c3,c4,c5,c6,c7,c8⟩:=nine HS2.own;have ff:=aj HS2.own 7;have hgl:=aA HS2.own;go_wp2_with fail;go_meet
     case rel=>exact⟨rfl,{n1 with old:=y},A1,HS2.put 7 (.int .i64 y) rfl rfl rfl rfl rfl rfl⟩
    .have h0:decide (z=0)=false:=decide_eq_false Aaa;have h1:decide (z=1)=false:=decide_eq_false Aaa;have h2:decide (z=2)=false:=decide_eq_false Aaa;have h3:decide (z=3)=false:=decide_eq_false Aaa;have h4:decide (z=4)=false:=decide_eq_false Aaa;have h5:decide (z=5)=false:=decide_eq_false Aaa;have e0:(z == 0)=false:=Aaf
     have e1:(z == 1)=false:=Aaf
     have e2:(z == 2)=false:=Aaf
     have e3:(z == 3)=false:=Aaf
     have e4:(z == 4)=false:=Aaf
     have e5:(z == 5)=false:=Aaf
     go_wp2_with fail;go_meet
     case rel=>exact⟨rfl,n1,A1,BH⟩
   case rest=>
    obtain⟨rfl,n,A,hS⟩:=hcut;have HS:=Hq hS;clear hS;obtain⟨q0,q1,q2,q3,q4,q5,q6,q7,q8⟩:=nine HS.own;obtain⟨d0,d1,d2,d3,d4,d5,d6,d7,d8⟩:=nine HS.res;have f0:=aj HS.res 0;have f1:=aj HS.res 1;have f2:=aj HS.res 2;have f3:=aj HS.res 3;have f4:=aj HS.res 4;have f5:=aj HS.res 5;have f6:=aj HS.res 6;have f7:=aj HS.res 7;have f8:=aj HS.res 8;have hzg:=aA HS.own;have hzr:=aA HS.res;have hgl:=HS.glt;go_wp2_with fail;refine aO (λW' hW'=>?_);have hR:=Ae (b0:= .int .i64 n.id) (b1:= .int .i64 n.par) (b2:= .slice A.k n.kids.length A.ck) (b3:= .int .i64 n.next) (b4:= .slice A.p n.pu.length A.cp) (b5:= .slice A.o n.out.length A.co) (b6:= .slice A.s n.seen.length A.cs) (b7:= .int .i64 n.old) (b8:= .slice A.r n.reqs.length A.cr) HS.res;have hK:=uN (w:=wc) (g:=w.heap.size) (b0:= .int .i64 n.id) (b1:= .int .i64 n.par) (b2:= .slice A.k n.kids.length A.ck) (b3:= .int .i64 n.next) (b4:= .slice A.p n.pu.length A.cp) (b5:= .slice A.o n.out.length A.co) (b6:= .slice A.s n.seen.length A.cs) (b7:= .int .i64 n.old) (b8:= .slice A.r n.reqs.length A.cr);rw [<-hW'] at hR hK;obtain⟨x0,x1,x2,x3,x4,x5,x6,x7,x8⟩:=nine hR;have hbl:Below w.heap.size wc W':=hK.below (λx hx=>by have:x=w.heap.size:=Aag;omega) Aaa
    have hat:∀W'',Dr w W' W''->bQ W'' A n:=λW'' hA=>by
     obtain⟨gk,gs,I,col,h1,h2,h3⟩:=HS.rm
     exact((h1.kc (k:=0) (KC.keeps hK (λx hx=>h2 x (by have:x=w.heap.size:=(by simpa using hx);omega))) (.inl rfl)).kc (hA.kc (λx hx=>h2 x Aaa)) (.inl rfl)).at
    have hkk:Keeps c w W':=by
     have h:=HS.keep;exact⟨hbl.os.trans h.os,hbl.tape.trans h.tape,hbl.output.trans h.output,Nat.le_trans h.size hbl.size,λj j1 j2=>(hbl.block j j1).trans (h.block j j1 j2)⟩
    exact bodyPost_ret (v:=fT n A) (by simp[results,results32,go_sem,x0,x1,x2,x3,x4,x5,x6,x7,x8]) rfl ⟨n,A,rfl,HS.sz,hat,HS.cur.below hbl hcl,hkk⟩
theorem KD (h:∀W,W=w->wpAny P md ops Q fuel listed a W):wpAny P md ops Q fuel listed a w:=h _ rfl
theorem XE {w':World} (h:Keeps g w w'):aC [g] w w':=⟨h.os,h.tape,h.output,h.size,λk hk hg=>h.block k hk (by simpa using hg)⟩
theorem SS (a:Option Addr) (len cap:Nat) (w:World) (hcode:xW w a len):Calls prog 22 #[.slice a len cap] w λe w'=>∃n A t,e= .returned (.tuple #[fT n A,.string t])/\eY n 1048576/\bQ w' A n/\t.size<=8000/\aY w w':=by
 have HN:=Hq (aeu a len cap w (.cells fU 30) hcode);clear hcode;go_in
 go_wp2_with fail;refine HN.mono ?_;rintro e w1 ⟨rfl,hc1,hr1,hb1⟩;have HR1:=Hq hr1;have HB1:=Hq hb1;have aCj:=hc1.lt;clear HN hb1 hr1;go_wp2_with fail;refine(aex _ _ hc1).mono ?_;rintro e w2 ⟨n,A,rfl,hz,hat,hc2,hk2⟩;have HAT:=Hq hat;have HZ:=Hq hz;have hz2:=hk2.size;have HR2:=Hq (show w2.heap[w.heap.size]?=some (.cells fU 30 (0,0)) by rw [hk2.block _ (aA (ah HR1)) Aaa];exact HR1);have HB2:Hid (aY w w2):=HB1.trans (hk2.below Aaa HB1.size);clear hat hz hk2 hc1 HB1 HR1;open aoX in exact yc
end Go.Proofs.YtacgbldlonoaaaaGreatDoor
