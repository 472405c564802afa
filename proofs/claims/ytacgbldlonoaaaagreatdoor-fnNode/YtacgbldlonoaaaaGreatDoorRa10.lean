/- Parts. -/
import Derived.Test.YtacgbldlonoaaaaGreatDoorRa9
namespace Go.Proofs.YtacgbldlonoaaaaGreatDoor
open Go.RowKit
open Mth
theorem lZ (I:Nat→Nat) (l:List Sn):(nM I l).Nodup↔∀i j (hi:i < l.length) (hj:j < l.length),i < j→0 < l[i].ids.length→0 < l[j].ids.length→I i≠I j:=by
 have hg:∀i (hi:i < l.length),l.getD i default=l[i]:=fun i hi=>by rw [List.getD_eq_getElem?_getD,List.getElem?_eq_getElem hi];rfl
 unfold nM List.Nodup;rw [List.pairwise_flatMap];constructor
 ·rintro⟨_,h⟩ i j hi hj hij h1 h2 e;rw [List.pairwise_iff_getElem] at h;have:=h i j (by simpa using hi) (by simpa using hj) hij;rw [List.getElem_range,List.getElem_range,hg i hi,hg j hj] at this;exact this (I i) (dz h1) (I j) (dz h2) e
 ·intro h;refine⟨fun i _=>zB _ _,?_⟩;rw [List.pairwise_iff_getElem];intro i j hi hj hij x hx y hy;have hi':i < l.length:=by simpa using hi
  have hj':j < l.length:=by simpa using hj
  rw [List.getElem_range,hg i hi'] at hx;rw [List.getElem_range,hg j hj'] at hy;obtain⟨rfl,h1⟩:=gD hx;obtain⟨rfl,h2⟩:=gD hy;exact h i j hi' hj' hij h1 h2
theorem zx (l:List Int):GR.flat aR l=l.map (Value.int .i64):=by
 induction l with
 |nil=>rfl
 |cons x l ih=>rw [GR.flat_cons,ih];rfl
theorem lX (q:Rq):∀u∈aK q,u.oneCell'=true:=by
 intro u hu;simp only[aK,List.mem_cons,List.not_mem_nil,or_false] at hu;rcases hu with rfl|rfl|rfl|rfl<;>rfl
theorem gI (l:List Rq):∀u∈GR.flat aK l,u.oneCell'=true:=by
 intro u hu;unfold GR.flat at hu;obtain⟨q,_,hq⟩:=List.mem_flatMap.1 hu;exact lX q u hq
set_option maxHeartbeats 2000000
set_option maxRecDepth 100000
theorem abC (n:Int) (w:World):Calls Tryz.prog 133 #[.int .i64 n] w fun e w'=>e= .returned (.bool (decide (sG n 0 1000000000)))∧w=w':=by
 by_cases h0:0≤n
 ·by_cases h1:n≤1000000000
  ·rw [decide_eq_true (show sG n 0 1000000000 from⟨h0,h1⟩)];exact QJ
  ·rw [decide_eq_false (show¬sG n 0 1000000000 from fun h=>h1 h.2)];exact QJ
 ·rw [decide_eq_false (show¬sG n 0 1000000000 from fun h=>h0 h.1)];exact QJ
theorem iZ (n:Int) (b:Bool) (w:World) (h:mW n=b):Calls Tryz.prog 133 #[.int .i64 n] w fun e w'=>e= .returned (.bool b)∧w=w':=by
 have e:decide (sG n 0 1000000000)=b:=h;rw [←e];exact abC n w
theorem vB (s:ByteArray) (b:Bool) (w:World) (h:keyOk s.data.toList=b):Calls Tryz.prog 131 #[.string s] w fun e w'=>e= .returned (.bool b)∧w=w':=by
 rw [←h];exact Db s w
theorem Sd (p:Pu) (w:World):Calls Tryz.prog 129 #[wI p] w fun e w'=>e= .returned (.bool (fH p))∧Below w.heap.size w w':=by
 obtain⟨pk,pm,pf,ps⟩:=p;cases hk:keyOk pk.data.toList
 case' false=>
  have HP:=hide (show fH ⟨pk,pm,pf,ps⟩=false by simp[fH,hk])
  have HK:=hide (fun w1=>vB pk false w1 hk)
  clear hk
  go_enter Tryz.func129,Tryz.ntmps129
  go_wp2_with (go_at_call 131;refine(HK _).mono ?_;rintro e w1 ⟨rfl,rfl⟩)
  go_ret
  exact⟨aD HP.symm,bZ w _⟩
 have HK:=hide (fun w1=>vB pk true w1 hk);cases h1:mW pm
 case' false=>
  have HP:=hide (show fH ⟨pk,pm,pf,ps⟩=false by simp[fH,h1])
  have H1:=hide (fun w1=>iZ pm false w1 h1)
  clear hk h1
  go_enter Tryz.func129,Tryz.ntmps129
  go_wp2_with (first|(go_at_call 131;refine(HK _).mono ?_;rintro e w1 ⟨rfl,rfl⟩)|(go_at_call 133;refine(H1 _).mono ?_;rintro e w1 ⟨rfl,rfl⟩))
  go_ret
  exact⟨aD HP.symm,bZ w _⟩
 have H1:=hide (fun w1=>iZ pm true w1 h1);cases h2:mW pf
 case' false=>
  have HP:=hide (show fH ⟨pk,pm,pf,ps⟩=false by simp[fH,h2])
  have H2:=hide (fun w1=>iZ pf false w1 h2)
  clear hk h1 h2
  go_enter Tryz.func129,Tryz.ntmps129
  go_wp2_with (first|(go_at_call 131;refine(HK _).mono ?_;rintro e w1 ⟨rfl,rfl⟩)|(go_at_call_of 133 pm;refine(H1 _).mono ?_;rintro e w1 ⟨rfl,rfl⟩)|(go_at_call_of 133 pf;refine(H2 _).mono ?_;rintro e w1 ⟨rfl,rfl⟩))
  go_ret
  exact⟨aD HP.symm,bZ w _⟩
 have H2:=hide (fun w1=>iZ pf true w1 h2);cases h3:mW ps
 case' false=>
  have HP:=hide (show fH ⟨pk,pm,pf,ps⟩=false by simp[fH,h3])
  have H3:=hide (fun w1=>iZ ps false w1 h3)
  clear hk h1 h2 h3
  go_enter Tryz.func129,Tryz.ntmps129
  go_wp2_with (first|(go_at_call 131;refine(HK _).mono ?_;rintro e w1 ⟨rfl,rfl⟩)|(go_at_call_of 133 pm;refine(H1 _).mono ?_;rintro e w1 ⟨rfl,rfl⟩)|(go_at_call_of 133 pf;refine(H2 _).mono ?_;rintro e w1 ⟨rfl,rfl⟩)|(go_at_call_of 133 ps;refine(H3 _).mono ?_;rintro e w1 ⟨rfl,rfl⟩))
  go_ret
  exact⟨aD HP.symm,bZ w _⟩
 have H3:=hide (fun w1=>iZ ps true w1 h3);have g2:0≤pf∧pf≤1000000000:=of_decide_eq_true h2;have g3:0≤ps∧ps≤1000000000:=of_decide_eq_true h3;obtain⟨g20,g21⟩:=g2;obtain⟨g30,g31⟩:=g3;have HP:=hide (show fH ⟨pk,pm,pf,ps⟩=mW (pf+ps) by simp[fH,hk,h1,h2,h3]);have H4:=hide (fun w1=>iZ (pf+ps) _ w1 rfl);clear hk h1 h2 h3;go_enter Tryz.func129,Tryz.ntmps129
 go_wp2_with (first|(go_at_call 131;refine(HK _).mono ?_;rintro e w1 ⟨rfl,rfl⟩)|(go_at_call_of 133 pm;refine(H1 _).mono ?_;rintro e w1 ⟨rfl,rfl⟩)|(go_at_call_of 133 pf;refine(H2 _).mono ?_;rintro e w1 ⟨rfl,rfl⟩)|(go_at_call_of 133 ps;refine(H3 _).mono ?_;rintro e w1 ⟨rfl,rfl⟩)|(go_at_call_of 133 (pf+ps);refine(H4 _).mono ?_;rintro e w1 ⟨rfl,rfl⟩))
 go_ret;exact⟨aD HP.symm,bZ w _⟩
set_option maxHeartbeats 2000000
theorem zK (p:Pu) (w:World) (hk:p.k.size≤1048576):Calls Tryz.prog 160 #[wI p] w fun e w'=>e= .returned (wI p)∧Below w.heap.size w w':=by
 obtain⟨pk,pm,pf,ps⟩:=p;have HC:=hide (fun w1=>clone pk w1 (by dsimp only at hk;omega));clear hk;go_enter Tryz.func160,Tryz.ntmps160
 go_wp2_with fail;refine(HC _).mono ?_;rintro e w1 ⟨rfl,hb1⟩;obtain⟨hA,hB,hz,hbel⟩:=Fo.two_blocks hb1;have HB:=hide hB;have fD:=hide hbel;obtain⟨⟨p0,p1,p2,p3⟩,q0,q1,q2,q3⟩:=eX hA;obtain⟨⟨r0,r1,r2,r3⟩,s0,s1,s2,s3⟩:=eX hB;clear hb1 hA hB hbel;go_wp2_with fail;clear r0 r1 r2 r3;refine Fo.bodyPost_at (fun W' hW'=>?_);obtain⟨⟨r0,r1,r2,r3⟩,_⟩:=eX (show W'.heap[w.heap.size+1]?=some (.cells #[.string pk,.int .i64 pm,.int .i64 pf,.int .i64 ps] 143 (0,0)) by rw [hW'];exact Fo.four_set (Fo.one_other HB (by omega)));have hbb:Below w.heap.size w W':=by rw [hW'];exact Fo.four_below (fD.setCell (p:=⟨w.heap.size,0,none⟩) (Nat.le_refl _) _) (by omega)
 refine bodyPost_ret (v:= .agg #[.string pk,.int .i64 pm,.int .i64 pf,.int .i64 ps]) (by simp[results,Tryz.results160,go_sem,r0,r1,r2,r3]) rfl ⟨rfl,hbb⟩
theorem xQ (a:Option Addr) (cap:Nat) (l:List Pu) (key:ByteArray) (w:World) (hl:l.length≤1048600) (hks:∀p∈l,p.k.size≤1048576) (hkey:key.size≤1048576) (ha:aH w a l):
 Calls Tryz.prog 136 #[.slice a l.length cap,.string key] w fun e w'=>e= .returned (wI (aF l key))∧Below w.heap.size w w':=by
 have HA:=hide ha;have O6:=hide hks;have iN:=hide (fun w1=>clone key w1 (by omega));clear ha hks;go_enter Tryz.func136,Tryz.ntmps136
 go_wp2_with fail;go_loopw [9] (fun i wr=>∃k:Nat,k≤l.length∧i= .int .i64 k∧(l.take k).find? (fun p=>p.k.toList == key.toList)=none∧Below w.heap.size w wr∧wr.heap[w.heap.size]?=some (.cells #[.string ⟨#[]⟩,.int .i64 0,.int .i64 0,.int .i64 0] 143 (0,0))) (fun i _=>l.length - (intOf i).toNat)
 case atStart=>exact⟨0,Nat.zero_le _,rfl,rfl,bZ w _,heap_alloc_new w _⟩
 case round=>
  obtain⟨k,hk,rfl,hnone,hbel,hblk⟩:=hrel;have HN:=hide hnone;have fD:=hide hbel;have DC:=hide hblk;have Vy:=Fo.lt_of_blk hblk;clear hnone hbel hblk;by_cases hlt:k < l.length
  ·obtain⟨g,off,rfl,hgw,c0,c1,c2,c3⟩:=aH.four (GR.At.below HA fD) k hlt;have hfs:=CY (fun p=>p.k.toList == key.toList) l k hlt HN;have hkk:=ah O6 l[k] (List.getElem_mem hlt);cases hf:l[k].k.toList == key.toList
   ·have HX:=hide (hfs.2 hf);clear hfs HN hkk;open ali in exact QD
   ·have HX:=hide (show aF l key=l[k] by unfold aF;rw [hfs.1 hf];rfl);clear hfs HN;open ala in exact YH
  ·open afU in exact DZ
theorem Z4 (a:Option Addr) (cap:Nat) (l:List Pu) (key:ByteArray) (w:World) (hl:l.length≤1048600) (hks:∀p∈l,p.k.size≤1048576) (hkey:key.size≤1048576) (ha:aH w a l):
 Calls Tryz.prog 66 #[.slice a l.length cap,.string key] w fun e w'=>e= .returned (.int .i64 (wrap64 ((aF l key).f+(aF l key).s)))∧Below w.heap.size w w':=by
 have HP:=hide (xQ a cap l key w hl hks hkey ha);clear ha hks;generalize aF l key=p at *;obtain⟨pk,pm,pf,ps⟩:=p;go_enter Tryz.func66,Tryz.ntmps66
 go_wp2_with fail;refine HP.mono ?_;rintro e w1 ⟨rfl,hb1⟩;go_wp2_with fail;go_ret;exact⟨rfl,hb1.alloc hb1.size _⟩
def rU (w:World) (a:Option Addr) (g:Nat) (l:List Pu):Prop:=∀i (hi:i < l.length),a=some ⟨g,0,none⟩∧g < w.heap.size∧∀j,j < 4→w.cell? ⟨g,i*4+j,none⟩=(eG l[i])[j]?∧w.frozen? ⟨g,i*4+j,none⟩=false
theorem rU.at {w:World} {a:Option Addr} {g:Nat} {l:List Pu} (h:rU w a g l):aH w a l:=fun i hi=>
 ⟨g,0,(h i hi).1,(h i hi).2.1,fun j hj=>by rw [Nat.zero_add];exact((h i hi).2.2 j hj).1⟩
theorem rU.of_blk {w:World} {g:Nat} {l:List Pu} (h:qU w g l):rU w (some ⟨g,0,none⟩) g l:=fun i hi=>
 ⟨rfl,GR.Blk.lt h,fun j hj=>⟨GR.Blk.cell h aZ i hi j hj,GR.Blk.free h _⟩⟩
theorem rU.nil {w:World} {a:Option Addr} {g:Nat}:rU w a g []:=fun i hi=>by simp at hi
theorem rU.below {w w':World} {a:Option Addr} {g:Nat} {l:List Pu} (h:rU w a g l) (hb:Below w.heap.size w w'):rU w' a g l:=fun i hi=>by
 obtain⟨e,hg,hc⟩:=h i hi;exact⟨e,Nat.lt_of_lt_of_le hg hb.size,fun j hj=>⟨(hb.cell (p:=⟨g,i*4+j,none⟩) hg).trans (hc j hj).1,(hb.frozen (p:=⟨g,i*4+j,none⟩) hg).trans (hc j hj).2⟩⟩
theorem rU.keeps {w w':World} {a:Option Addr} {g g':Nat} {l:List Pu} (h:rU w a g l) (hk:Keeps g' w w') (hne:l=[]∨g≠g'):rU w' a g l:=by
 rcases hne with rfl|hne
 ·exact rU.nil
 ·intro i hi;obtain⟨e,hg,hc⟩:=h i hi;exact anh
theorem rU.four {w:World} {a:Option Addr} {g:Nat} {l:List Pu} (h:rU w a g l) (i:Nat) (hi:i < l.length):a=some ⟨g,0,none⟩∧g < w.heap.size∧(w.cell? ⟨g,i*4,none⟩=some (.string l[i].k)∧w.cell? ⟨g,i*4+1,none⟩=some (.int .i64 l[i].m)∧w.cell? ⟨g,i*4+2,none⟩=some (.int .i64 l[i].f)∧w.cell? ⟨g,i*4+3,none⟩=some (.int .i64 l[i].s))∧w.frozen? ⟨g,i*4,none⟩=false∧w.frozen? ⟨g,i*4+1,none⟩=false∧w.frozen? ⟨g,i*4+2,none⟩=false∧w.frozen? ⟨g,i*4+3,none⟩=false:=by
 exact am0
theorem qh {g k:Nat}:∀(vs:List Value) (w:World) (o:Nat),k < o∨o+vs.length≤k→(GR.setW w g o vs).cell? ⟨g,k,none⟩=w.cell? ⟨g,k,none⟩:=by
 exact am6
theorem Aj {g:Nat}:∀(vs:List Value) (w:World) (o:Nat),(∀j,j < vs.length→∃v,w.cell? ⟨g,o+j,none⟩=some v)→∀j,j < vs.length→(GR.setW w g o vs).cell? ⟨g,o+j,none⟩=vs[j]?:=by
 intro vs;induction vs with
 |nil=>intro w o _ j hj;simp at hj
 |cons v vs ih=>
  intro w o h j hj
  cases j with
  |zero=>
   obtain⟨v0,hv0⟩:=h 0 (by simp)
   rw [Nat.add_zero] at hv0 ⊢
   refine(qh vs (w.setCell ⟨g,o,none⟩ v) (o+1) (by omega)).trans ?_
   rw [World.cell?_setCell_same _ _ _ hv0]
   rfl
  |succ j=>
   have h2:=ih (w.setCell ⟨g,o,none⟩ v) (o+1) (fun j' hj'=>by
    obtain⟨v1,hv1⟩:=h (j'+1) (by simpa using hj')
    refine⟨v1,(World.cell?_setCell_other _ _ _ _ (by simp<;>omega)).trans ?_⟩
    rw [←hv1,show o+1+j'=o+(j'+1) by omega]) j (by simpa using hj)
   rw [show o+1+j=o+(j+1) by omega] at h2
   exact h2
theorem IE {g k:Nat}:∀(vs:List Value) (w:World) (o:Nat),(GR.setW w g o vs).frozen? ⟨g,k,none⟩=w.frozen? ⟨g,k,none⟩:=by
 exact anw
theorem OJ {g:Nat}:∀(vs:List Value) (w:World) (o:Nat),(GR.setW w g o vs).heap.size=w.heap.size:=by
 exact Y6
theorem rU.set {w:World} {a:Option Addr} {g:Nat} {l:List Pu} (h:rU w a g l) (k:Nat) (x:Pu) (hk:k < l.length):rU (GR.setW w g (k*4) (eG x)) a g (l.set k x):=fun i hi=>by
 have hi':i < l.length:=by simpa using hi
 obtain⟨e,hg,hc⟩:=h i hi';refine⟨e,by rw [OJ];exact hg,fun j hj=>⟨?_,by rw [IE];exact(hc j hj).2⟩⟩;by_cases hik:i=k
 ·subst hik
  rw [Aj (eG x) w (i*4) (fun j' hj'=>by
   have hj4:j' < 4:=by rw [aZ] at hj';exact hj'
   have h1:=(hc j' hj4).1
   rw [List.getElem?_eq_getElem (by rw [aZ];exact hj4)] at h1
   exact⟨_,h1⟩) j (by rw [aZ];exact hj)]
  simp
 ·rw [qh (eG x) w (k*4) (by rw [aZ];omega),(hc j hj).1,List.getElem_set_ne (by omega)]
set_option maxHeartbeats 2000000
open Go.RowKit Go.Maps
theorem Gz (a:Option Addr) (cap:Nat) (l:List Pu) (w:World) (hl:l.length≤1048600) (ha:aH w a l):
 Calls Tryz.prog 159 #[.slice a l.length cap] w fun e w'=>∃v,e= .returned v∧w'.ownsRow w.heap.size 143 4 v l.length (GR.flat eG l)∧Below w.heap.size w w':=by
 obtain⟨i0,hi,hz0,hz1,hz2⟩:=info_parts zL;have q22:∀(w:World) (a:Option Addr) (n c n' c':Nat),(binOp .eql 25 (.slice a n c) (.slice none n' c')).run Tryz.prog w= .ok (.bool a.isNone) w:=fun w a n c n' c'=>Lib.run_eql_slice_nil w _ _ a n c n' c' Tryz.underlying25
 open akW in exact Yy
theorem rU.of_own {w:World} {B:Nat} {v:Value} {l:List Pu} (h:w.ownsRow B 143 4 v l.length (GR.flat eG l)) (hB:B≤w.heap.size):∃a c g,v= .slice a l.length c∧B≤g∧rU w a g l:=by
 obtain⟨a,c,rfl,hat⟩:=GR.own_at aZ h;rcases h.2 with⟨hv,hn⟩|⟨g,cap,cur,hv,hg,hblk,_⟩
 ·have hl:l=[]:=List.eq_nil_of_length_eq_zero hn;subst hl;exact⟨_,_,w.heap.size,rfl,hB,rU.nil⟩
 ·cases hv
  refine⟨_,_,g,rfl,hg,fun i hi=>?_⟩;exact anl
theorem Hf (a:Option Addr) (cap:Nat) (l:List Pu) (w:World) (hl:l.length≤1048576) (hks:∀p∈l,p.k.size≤1048576) (ha:aH w a l):
 Calls Tryz.prog 100 #[.slice a l.length cap] w fun e w'=>∃a' c' g,w.heap.size≤g∧e= .returned (.slice a' l.length c')∧rU w' a' g l∧Below w.heap.size w w':=by
 have iN:=hide (Gz a cap l w (by omega) ha);have O6:=hide hks;clear ha hks;go_enter Tryz.func100,Tryz.ntmps100
 go_wp2_with fail;refine iN.mono ?_;rintro e w1 ⟨v,rfl,hown,hb1⟩;obtain⟨a',c',g,rfl,hg,hW⟩:=rU.of_own hown hb1.size;have HW:=hide hW;have HB1:=hide hb1;clear hown hb1 hW iN;go_wp2_with fail;go_loopw [10] (fun i wr=>∃k:Nat,k≤l.length∧i= .int .i64 k∧rU wr a' g l∧Below w.heap.size w wr) (fun i _=>l.length - (intOf i).toNat)
 case atStart=>exact⟨0,Nat.zero_le _,rfl,HW,HB1⟩
 case round=>
  obtain⟨k,hk,rfl,hB,hbel⟩:=hrel;have HB:=hide hB;have fD:=hide hbel;clear hB hbel;by_cases hlt:k < l.length
  ·obtain⟨e0,hgw,⟨q0,q1,q2,q3⟩,_⟩:=rU.four HB k hlt;subst e0;have hkk:=ah O6 l[k] (List.getElem_mem hlt);have hse:l.set k l[k]=l:=List.set_getElem_self hlt;have HSE:=hide hse;clear hse;open alb in exact YH
  ·open afV in exact DZ
set_option maxHeartbeats 1000000
theorem Mq {α:Type} {enc:α→List Value} {sz:Nat} (hs:∀x,(enc x).length=sz) (hz:0 < sz) {w:World} {x:Addr} {l:List α} (h:GR.At enc sz w (some x) l):∀j u,(GR.flat enc l)[j]?=some u→w.cell? (x.add j)=some u:=by
 intro j u hu
 have hj:j < l.length*sz:=by
  have:=(List.getElem?_eq_some_iff.1 hu).1;rwa [GR.flat_length enc sz hs] at this
 have hi:j / sz < l.length:=Nat.div_lt_of_lt_mul (by rw [Nat.mul_comm];exact hj);have hr:j % sz < sz:=Nat.mod_lt _ hz;have ej:j / sz*sz+j % sz=j:=by rw [Nat.mul_comm];exact Nat.div_add_mod j sz
 obtain⟨g,off,e,hg,hc⟩:=h (j / sz) hi;have hf:=GR.flat_at enc sz hs l (j / sz) hi (j % sz) hr;rw [ej] at hf;have h2:=hc (j % sz) hr;rw [ej,←hf,hu] at h2;injection e with e
 subst e;rw [Addr.add_lit];exact h2
theorem xM (l:List jm):∀u∈GR.flat aS l,u.oneCell'=true:=by
 intro u hu;unfold GR.flat at hu;rw [List.mem_flatMap] at hu;obtain⟨p,_,hp⟩:=hu;simp only[aS,List.mem_cons,List.not_mem_nil,or_false] at hp;rcases hp with rfl|rfl|rfl|rfl<;>rfl
theorem vS {α:Type} {enc:α→List Value} {sz:Nat} {w:World} {B:Nat} {t:TypeId} {a:Option Addr} {cp:Nat} {l:List α} (h:w.ownsRow B t sz (.slice a l.length cp) l.length (GR.flat enc l)) (hl:0 < l.length):∃g rest,a=some ⟨g,0,none⟩∧B≤g∧w.heap[g]?=some (.cells (GR.flat enc l++rest).toArray t (0,0)):=by
 rcases h.2 with⟨_,hy⟩|⟨g,cp',cur,hx,hbg,hgg,hnc,hcm,hcs,htk⟩
 ·omega
 simp only[Value.slice.injEq] at hx;obtain⟨rfl,_,rfl⟩:=hx;refine⟨g,cur.toList.drop (l.length*sz),rfl,hbg,?_⟩;rw [←htk,List.take_append_drop,Array.toArray_toList];exact hgg
theorem Ab {α:Type} {enc:α→List Value} {sz:Nat} (hs:∀x,(enc x).length=sz) {w:World} {g:Nat} {l:List α} {t:TypeId} {rest:List Value} (h:w.heap[g]?=some (.cells (GR.flat enc l++rest).toArray t (0,0))) (i:Nat) (hi:i < l.length) (j:Nat) (hj:j < sz):w.cell? ⟨g,i*sz+j,none⟩=(enc l[i])[j]?:=by
 have hlt:i*sz+j < (GR.flat enc l).length:=by
  rw [GR.flat_length enc sz hs];have:(i+1)*sz≤l.length*sz:=Nat.mul_le_mul_right sz hi;exact QZ
 rw [cell_of_row w g _ _ t (0,0) h,List.getElem?_toArray,List.getElem?_append_left hlt];exact GR.flat_at enc sz hs l i hi j hj
theorem zm {w:World} {g i:Nat} {v:Value} {cs:Array Value} {t:TypeId} {fr:Nat×Nat} (h:w.heap[g]?=some (.cells cs t fr)) (hc:w.cell? ⟨g,i,none⟩=some v):Below w.heap.size w (w.setCell ⟨g,i,none⟩ v):=by
 refine⟨rfl,rfl,rfl,by simp[World.setCell],fun k hk=>?_⟩;by_cases e:k=g
 ·subst e;have h1:w.cell? ⟨k,i,none⟩=cs[i]?:=cell_of_row w k i cs t fr h;rw [hc] at h1;unfold World.setCell;simp only[Array.getElem?_modify];rw [if_pos trivial,h]
  have h2:cs.setIfInBounds i v=cs:=by
   apply Array.ext_getElem?
   intro q;rw [Array.getElem?_setIfInBounds];split
   ·rename_i e
    subst e;split
    ·exact h1
    ·rw [Array.getElem?_eq_none (by omega)]
   ·rfl
  simp[h2]
 ·exact Below.heap_setCell _ _ _ _ e
theorem Ra (a:Option Addr) (cap:Nat) (l:List jm) (w:World) (hl:l.length≤1048600) (hv:∀u∈GR.flat aS l,u.oneCell'=true) (ha:GR.At aS 4 w a l):
 Calls Tryz.prog 101 #[.slice a l.length cap] w fun e w'=>∃v,e= .returned v∧w'.ownsRow w.heap.size 95 4 v l.length (GR.flat aS l)∧Below w.heap.size w w':=by
 obtain⟨i0,hi,hz0,hz1,hz2⟩:=info_parts Ht;have q22:∀(w:World) (a:Option Addr) (n c n' c':Nat),(binOp .eql 26 (.slice a n c) (.slice none n' c')).run Tryz.prog w= .ok (.bool a.isNone) w:=fun w a n c n' c'=>Lib.run_eql_slice_nil w _ _ a n c n' c' Tryz.underlying26
 have hlit:(w.alloc (.cells #[] 95)).ownsRow w.heap.size 95 4 (.slice (some ⟨w.heap.size,0,none⟩) 0 0) 0 []:=World.ownsRow_lit (base:=w.heap.size) (e:=95) (size:=4) w #[] 0 (Nat.le_refl _) (by decide) rfl;cases a with
 |none=>
  have hl0:l=[]:=GR.none_nil ha
  subst hl0
  clear ha hlit hv
  go_enter Tryz.func101,Tryz.ntmps101
  go_wp2_with fail
  go_ret
  exact⟨_,rfl,World.ownsRow_nil _ _ _ _,Below.refl _ _⟩
 |some x=>
  have HN:=hide (Mq bH (by omega) (GR.At.below ha (au w (.cells #[] 95))))
  have HV:=hide hv
  clear ha hv
  go_enter Tryz.func101,Tryz.ntmps101
  go_wp2_with (at_builtin;refine wpList_append_own _ rfl _ _ 26 rfl w.heap.size 95 i0 (.agg #[.int .i64 0,.int .i64 0,.string ByteArray.empty,.int .i64 0]) 4 40 Tryz.underlying26 hi hz0 hz1 hz2 rfl (by decide) _ 0 [] rfl hlit x l.length cap (GR.flat aS l) rfl ?c0 ?c1 ?c2 ?c3 ?c4 ?c5 ?_)
  case c0=>exact GR.flat_length aS 4 bH l
  case c1=>exact HN
  case c2=>exact HV
  case c3=>unfold maxLen;omega
  case c4=>omega
  case c5=>simp
  intro v' w1 hown' hgrow _
  have HO:=hide (show w1.ownsRow w.heap.size 95 4 v' l.length (GR.flat aS l) by simpa using hown')
  have hb:Below w.heap.size w w1:=(au w _).grown hgrow (by simp) (fun k hk=>by cases hk;exact Nat.le_refl _)
  clear hown' hgrow hlit
  go_wp2
  go_ret
  exact⟨_,rfl,HO,hb⟩
theorem Vs (a:Option Addr) (cap:Nat) (l:List Rq) (w:World) (hl:l.length≤1048600) (hv:∀u∈GR.flat aK l,u.oneCell'=true) (ha:GR.At aK 4 w a l):
 Calls Tryz.prog 104 #[.slice a l.length cap] w fun e w'=>∃v,e= .returned v∧w'.ownsRow w.heap.size 97 4 v l.length (GR.flat aK l)∧Below w.heap.size w w':=by
 obtain⟨i0,hi,hz0,hz1,hz2⟩:=info_parts vF;have q22:∀(w:World) (a:Option Addr) (n c n' c':Nat),(binOp .eql 28 (.slice a n c) (.slice none n' c')).run Tryz.prog w= .ok (.bool a.isNone) w:=fun w a n c n' c'=>Lib.run_eql_slice_nil w _ _ a n c n' c' Tryz.underlying28
 have hlit:(w.alloc (.cells #[] 97)).ownsRow w.heap.size 97 4 (.slice (some ⟨w.heap.size,0,none⟩) 0 0) 0 []:=World.ownsRow_lit (base:=w.heap.size) (e:=97) (size:=4) w #[] 0 (Nat.le_refl _) (by decide) rfl;cases a with
 |none=>
  have hl0:l=[]:=GR.none_nil ha
  subst hl0
  clear ha hlit hv
  go_enter Tryz.func104,Tryz.ntmps104
  go_wp2_with fail
  go_ret
  exact⟨_,rfl,World.ownsRow_nil _ _ _ _,Below.refl _ _⟩
 |some x=>
  have HN:=hide (Mq aY (by omega) (GR.At.below ha (au w (.cells #[] 97))))
  have HV:=hide hv
  clear ha hv
  go_enter Tryz.func104,Tryz.ntmps104
  go_wp2_with (at_builtin;refine wpList_append_own _ rfl _ _ 28 rfl w.heap.size 97 i0 (.agg #[.int .i64 0,.string ByteArray.empty,.int .i64 0,.int .i64 0]) 4 40 Tryz.underlying28 hi hz0 hz1 hz2 rfl (by decide) _ 0 [] rfl hlit x l.length cap (GR.flat aK l) rfl ?c0 ?c1 ?c2 ?c3 ?c4 ?c5 ?_)
  case c0=>exact GR.flat_length aK 4 aY l
  case c1=>exact HN
  case c2=>exact HV
  case c3=>unfold maxLen;omega
  case c4=>omega
  case c5=>simp
  intro v' w1 hown' hgrow _
  have HO:=hide (show w1.ownsRow w.heap.size 97 4 v' l.length (GR.flat aK l) by simpa using hown')
  have hb:Below w.heap.size w w1:=(au w _).grown hgrow (by simp) (fun k hk=>by cases hk;exact Nat.le_refl _)
  clear hown' hgrow hlit
  go_wp2
  go_ret
  exact⟨_,rfl,HO,hb⟩
theorem Vr (a:Option Addr) (cap:Nat) (l:List R3) (w:World) (hl:l.length≤1048600) (hv:∀u∈GR.flat cu l,u.oneCell'=true) (ha:GR.At cu 3 w a l):
 Calls Tryz.prog 103 #[.slice a l.length cap] w fun e w'=>∃v,e= .returned v∧w'.ownsRow w.heap.size 90 3 v l.length (GR.flat cu l)∧Below w.heap.size w w':=by
 obtain⟨i0,hi,hz0,hz1,hz2⟩:=info_parts zM;have q22:∀(w:World) (a:Option Addr) (n c n' c':Nat),(binOp .eql 27 (.slice a n c) (.slice none n' c')).run Tryz.prog w= .ok (.bool a.isNone) w:=fun w a n c n' c'=>Lib.run_eql_slice_nil w _ _ a n c n' c' Tryz.underlying27
 have hlit:(w.alloc (.cells #[] 90)).ownsRow w.heap.size 90 3 (.slice (some ⟨w.heap.size,0,none⟩) 0 0) 0 []:=World.ownsRow_lit (base:=w.heap.size) (e:=90) (size:=3) w #[] 0 (Nat.le_refl _) (by decide) rfl;cases a with
 |none=>
  have hl0:l=[]:=GR.none_nil ha
  subst hl0
  clear ha hlit hv
  go_enter Tryz.func103,Tryz.ntmps103
  go_wp2_with fail
  go_ret
  exact⟨_,rfl,World.ownsRow_nil _ _ _ _,Below.refl _ _⟩
 |some x=>
  have HN:=hide (Mq bC (by omega) (GR.At.below ha (au w (.cells #[] 90))))
  have HV:=hide hv
  clear ha hv
  go_enter Tryz.func103,Tryz.ntmps103
  go_wp2_with (at_builtin;refine wpList_append_own _ rfl _ _ 27 rfl w.heap.size 90 i0 (.agg #[.int .i64 0,.int .i64 0,.slice none 0 0]) 3 40 Tryz.underlying27 hi hz0 hz1 hz2 rfl (by decide) _ 0 [] rfl hlit x l.length cap (GR.flat cu l) rfl ?c0 ?c1 ?c2 ?c3 ?c4 ?c5 ?_)
  case c0=>exact GR.flat_length cu 3 bC l
  case c1=>exact HN
  case c2=>exact HV
  case c3=>unfold maxLen;omega
  case c4=>omega
  case c5=>simp
  intro v' w1 hown' hgrow _
  have HO:=hide (show w1.ownsRow w.heap.size 90 3 v' l.length (GR.flat cu l) by simpa using hown')
  have hb:Below w.heap.size w w1:=(au w _).grown hgrow (by simp) (fun k hk=>by cases hk;exact Nat.le_refl _)
  clear hown' hgrow hlit
  go_wp2
  go_ret
  exact⟨_,rfl,HO,hb⟩
theorem Tn {w:World} {a:Option Addr} {l:List Sn} (h:jL w a l):∃T:List R3,T.length=l.length∧GR.At cu 3 w a T∧(∀u∈GR.flat cu T,u.oneCell'=true)∧∀i (hi:i < l.length),∃b c,T[i]?=some ⟨l[i].f,l[i].l,.slice b l[i].ids.length c⟩∧dK w b l[i].ids:=by
 have hk:∀k,k≤l.length→∃T:List R3,T.length=k∧(∀i (hi:i < T.length) (hl:i < l.length),∃b c,T[i]=⟨l[i].f,l[i].l,.slice b l[i].ids.length c⟩∧dK w b l[i].ids∧∃g off,a=some ⟨g,off,none⟩∧g < w.heap.size∧w.cell? ⟨g,off+i*3,none⟩=some (.int .i64 l[i].f)∧w.cell? ⟨g,off+i*3+1,none⟩=some (.int .i64 l[i].l)∧w.cell? ⟨g,off+i*3+2,none⟩=some (.slice b l[i].ids.length c)):=by
  intro k;induction k with
  |zero=>intro _;exact⟨[],rfl,fun i hi=>by simp at hi⟩
  |succ k ih=>
   intro hk
   obtain⟨T,hT,hr⟩:=ih (by omega)
   obtain⟨g,off,b,c,e,hg,h0,h1,h2,h3⟩:=h k (by omega)
   refine⟨T++[⟨l[k].f,l[k].l,.slice b l[k].ids.length c⟩],by simp[hT],fun i hi hl=>?_⟩
   by_cases hik:i < T.length
   ·rw [List.getElem_append_left hik];exact hr i hik hl
   ·have hi':i=k:=by simp at hi;omega
    subst hi';refine⟨b,c,?_,h3,g,off,e,hg,h0,h1,h2⟩;rw [List.getElem_append_right (by omega)];simp[hT]
 obtain⟨T,hT,hr⟩:=hk l.length (Nat.le_refl _);refine⟨T,hT,fun i hi=>?_,fun u hu=>?_,fun i hi=>?_⟩
 ·obtain⟨b,c,e,_,g,off,ea,hg,h0,h1,h2⟩:=hr i hi (by omega);refine⟨g,off,ea,hg,fun j hj=>?_⟩;rw [e];match j,hj with
  |0,_=>exact h0
  |1,_=>rw [←Nat.add_assoc];exact h1
  |2,_=>rw [←Nat.add_assoc];exact h2
 ·unfold GR.flat at hu;rw [List.mem_flatMap] at hu;obtain⟨p,hp,hq⟩:=hu;obtain⟨i,hi,rfl⟩:=List.mem_iff_getElem.1 hp;obtain⟨b,c,e,_⟩:=hr i hi (by omega);rw [e] at hq;simp only[cu,List.mem_cons,List.not_mem_nil,or_false] at hq;rcases hq with rfl|rfl|rfl<;>rfl
 ·obtain⟨b,c,e,hI,_⟩:=hr i (by omega) hi;exact⟨b,c,by rw [List.getElem?_eq_getElem (by omega),e],hI⟩
set_option maxHeartbeats 4000000
theorem l7 (p:Pu) (b:Bool) (w:World) (h:fH p=b):Calls Tryz.prog 129 #[wI p] w fun e w'=>e= .returned (.bool b)∧Below w.heap.size w w':=by
 rw [←h];exact Sd p w
theorem Ii (a b:ByteArray):Op.bytesLess b.toList a.toList= !sle a b:=by
 cases h:sle a b
 ·exact(mH _ _).2 ((kU a b).1 h)
 ·cases h2:Op.bytesLess b.toList a.toList
  ·rfl
  ·rw [(kU a b).2 ((mH _ _).1 h2)] at h;cases h
theorem oW (a:Option Addr) (cap:Nat) (l:List Pu) (w:World) (hl:l.length≤1048600) (ha:aH w a l):
 Calls Tryz.prog 53 #[.slice a l.length cap] w fun e w'=>e= .returned (.bool (ig l))∧Below w.heap.size w w':=by
 by_cases h20:l.length≤20
 ·have HA:=hide ha;clear ha;have aqr:decide (20 < (l.length:Int))=false:=decide_eq_false (by omega);go_enter Tryz.func53,Tryz.ntmps53
  go_wp2_with fail;go_loopw [10] (fun i wr=>∃k:Nat,k≤l.length∧i= .int .i64 k∧(List.range k).all (jc l)=true∧Below w.heap.size w wr) (fun i _=>l.length - (intOf i).toNat)
  case atStart=>exact QX
  case round=>
   obtain⟨k,hk,rfl,hall,hbel⟩:=hrel;have fD:=hide hbel;have kV:=hide hall;clear hall hbel;by_cases hlt:k < l.length
   ·open afg in exact ama
   ·exact am2
 ·have HF:=hide (show ig l=false by unfold ig;simp[h20]);have aqr:decide (20 < (l.length:Int))=true:=decide_eq_true (by omega);clear ha;go_enter Tryz.func53,Tryz.ntmps53
  go_wp2_with fail;go_ret;exact⟨aD HF.symm,Below.refl _ _⟩
set_option maxHeartbeats 1000000
theorem Ob (a:Option Addr) (cap:Nat) (l:List Int) (x:Int) (w:World) (hl:l.length≤1048600) (ha:dK w a l):
 Calls Tryz.prog 229 #[.slice a l.length cap,.int .i64 x] w fun e w'=>(∃i:Int,e= .returned (.int .i64 i)∧decide (0≤i)=hasB l x)∧w=w':=by
 have HA:=hide ha;clear ha;go_enter Tryz.func229,Tryz.ntmps229
 go_wp2_with fail;go_loop [8] (fun i=>∃k:Nat,k≤l.length∧i= .int .i64 k∧hasB (l.take k) x=false) (fun i=>l.length - (intOf i).toNat)
 case atStart=>exact⟨0,Nat.zero_le _,rfl,rfl⟩
 case round=>
  obtain⟨k,hk,rfl,hno⟩:=hrel;have HN:=hide hno;clear hno;by_cases hlt:k < l.length
  ·obtain⟨g,off,rfl,hgw,q0⟩:=dK.one HA k hlt;by_cases hx:l[k]=x
   ·have HY:=hide (has_yes l x k hlt hx);rw [hx] at q0;clear hx;go_wp2_with fail;go_ret;exact⟨⟨k,rfl,by rw [ah HY];simp⟩,rfl⟩
   ·have HS:=hide (has_snoc l x k hlt);rw [decide_eq_false hx] at HS;have hx':¬(x=l[k]):=fun h=>hx h.symm
    exact anm
  ·open afW in exact DZ
theorem En (a:Option Addr) (cap:Nat) (l:List Int) (x:Int) (w:World) (hl:l.length≤1048600) (ha:dK w a l):
 Calls Tryz.prog 192 #[.slice a l.length cap,.int .i64 x] w fun e w'=>e= .returned (.bool (hasB l x))∧w=w':=by
 have HI:=hide (Ob a cap l x w hl ha);clear ha;go_enter Tryz.func192,Tryz.ntmps192
 go_wp2_with fail;refine HI.mono ?_;rintro e w1 ⟨⟨i,rfl,hi⟩,rfl⟩;have HD:=hide hi;clear hi;go_wp2_with fail;go_ret;exact⟨aD HD,rfl⟩
theorem xq (n:Nd) (A:bE) (x:Int) (w:World) (hl:n.kids.length≤1048600) (ha:dK w A.k n.kids):
 Calls Tryz.prog 169 #[gu n A,.int .i64 x] w fun e w'=>e= .returned (.bool (hasB n.kids x))∧Below w.heap.size w w':=by
 have HH:=hide (En A.k A.ck n.kids x (w.alloc (.cells (fZ n A) 30)) hl (GR.At.below ha (au w _)));clear ha;go_enter Tryz.func169,Tryz.ntmps169
 go_wp2_with (go_at_call 192;refine HH.mono ?_;rintro e w1 ⟨rfl,rfl⟩)
 go_ret;exact⟨rfl,au w _⟩
def Mth.nearI (n:Nd) (x:Int):Bool:=nY x&&(decide (x=n.par)||hasB n.kids x)
theorem Mth.near_same {n:Nd} (h:bQ n=true) (x:Int):nearI n x=dB n x:=by
 obtain⟨h1,_,h3⟩:=kJ h
 have hp:n.par≤29:=by
  exact Zw
 unfold nearI dB;cases hh:hasB n.kids x
 ·simp only[Bool.or_false];by_cases hx:x=n.par
  ·by_cases h0:0≤x
   ·simp[nY,hx];omega
   ·simp[nY,hx];omega
  ·simp[hx]
 ·have h2:=h1 x ((uW _ _).1 hh);unfold iE at h2;simp only[Bool.and_eq_true] at h2;rw [h2.1.1];simp
theorem Hl (n:Nd) (A:bE) (x:Int) (w:World) (hl:n.kids.length≤1048600) (ha:dK w A.k n.kids):
 Calls Tryz.prog 130 #[gu n A,.int .i64 x] w fun e w'=>e= .returned (.bool (nearI n x))∧Below w.heap.size w w':=by
 have HK:=hide (xq n A x (w.alloc (.cells (fZ n A) 30)) hl (GR.At.below ha (au w _)));clear ha;cases h0:nY x
 ·have HN:=hide (show nearI n x=false by simp[nearI,h0]);have HA:=hide (fun w1=>isNode x false w1 h0);clear h0;exact Zg
 ·have HA:=hide (fun w1=>isNode x true w1 h0);by_cases h1:x=n.par
  ·have HN:=hide (show nearI n x=true by unfold nearI;rw [h0,decide_eq_true h1];rfl);have h2:(x == n.par)=true:=by simp[h1]
   clear h1 h0;exact Zg
  ·have HN:=hide (show nearI n x=hasB n.kids x by simp[nearI,h1,h0]);have h2:(x == n.par)=false:=by simp[h1]
   clear h1 h0;go_enter Tryz.func130,Tryz.ntmps130
   go_wp2_with (first|(go_at_call 128;refine(HA _).mono ?_;rintro e w1 ⟨rfl,rfl⟩)|(go_at_call 169;refine HK.mono ?_;rintro e w2 ⟨rfl,hb2⟩))
   go_ret;exact⟨aD HN.symm,(au w _).trans (hb2.mono (by simp))⟩
end Go.Proofs.YtacgbldlonoaaaaGreatDoor
