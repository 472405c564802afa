/-
  NdNew, NdMarkS, NdMarkN.
-/
import Derived.Test.YtheiblbhlmaphaaPa5
import Derived.Test.YtheiblbhlmaphaaPa6
import Derived.Test.YtheiblbhlmaphaaPaZ2
import Derived.Test.YtheiblbhlmaphaaPa3
import Derived.Deep.AppendLies
namespace Go.Proofs.Ytheiblbhlmaphaa
set_option maxHeartbeats 4000000
set_option maxRecDepth 100000
open Go.RowKit
open Mth
def GivesN (w:World) (R:Nd×Bool) (e:Ending) (w':World):Prop:=∃A',e= .returned (.tuple #[ndv R.1 A',.bool R.2])∧∃G,NodeW w' A' G R.1∧G.Sep R.1 w.heap.size w'.heap.size∧Below w.heap.size w w'
abbrev zc9:Array Value:=#[.int .i64 0,.int .i64 0,.slice none 0 0,.int .i64 0,.slice none 0 0,.slice none 0 0,.slice none 0 0,.int .i64 0,.slice none 0 0]
theorem nodeAt_new {w:World} {B B2:Nat} {id par:Int} {kv v:Value} {kids fs:List Int} (hk:w.ownsRow B 3 1 kv kids.length (GR.flat encNum kids)) (hs:w.ownsRow B2 58 3 v fs.length (GR.flat encR3 (fs.map r3of))):∃A,Value.agg (nnc id par kv v)=ndv (nnode id par kids fs) A∧NodeAt w A (nnode id par kids fs):=by
 obtain⟨a1,c1,g1,rfl,hW1,_⟩:=GR.W.of_own encNum_length hk;obtain⟨a2,c2,g2,rfl,hW2,_⟩:=SeenW.new hs;exact⟨⟨a1,none,none,a2,none,c1,0,0,c2,0⟩,by simp[nnc,ndv,ndc,nnode],⟨hW1.at,GR.at_nil _ _,GR.at_nil _ _,hW2.at,GR.at_nil _ _⟩⟩
theorem mem_one {x g:Nat} (h:x∈[g]):x=g:=by simpa using h
theorem sz_new {id par:Int} {kids fs:List Int} (h1:kids.length≤1048600) (h2:fs.length≤1048600):NdSz (nnode id par kids fs) 1048600:=
 ⟨h1,by simp[nnode],by simp[nnode],by simpa [nnode] using h2,by simp[nnode],fun x hx=>by simp[nnode] at hx,fun x hx=>by simp[nnode] at hx,fun x hx=>by simp only[nnode,List.mem_map] at hx;obtain⟨y,_,rfl⟩:=hx;simp,fun x hx=>by simp[nnode] at hx⟩
theorem implNodeNew (id par:Int) (a:Option Addr) (cap:Nat) (kids:List Int) (w:World) (hl:kids.length≤1048576) (ha:IntsAt w a kids):
 Calls Try.prog 19 #[.int .i64 id,.int .i64 par,.slice a kids.length cap] w (GivesN w (newN id par kids)):=by
 obtain⟨i0,hi,hz0,hz1,hz2⟩:=info_parts infoSeen;have HCL:=hide (cloneInts a cap kids (w.alloc (.cells zc9 42)) (by omega) (GR.At.below ha (below_one w _)));have HRB:=hide (heap_alloc_new w (.cells zc9 42));clear ha;obtain⟨RN,hRN⟩:∃R,newN id par kids=R:=⟨_,rfl⟩;rw [hRN];have HRN:=hide hRN;clear hRN;unfold GivesN;go_enter Try.func19,Try.ntmps19
 go_wp2_with fail;refine HCL.mono ?_;rintro e w1 ⟨kv,rfl,hown,hb1⟩;obtain⟨ka,kc,rfl,_⟩:=GR.own_at (enc:=encNum) (sz:=1) encNum_length hown;have HB1:=hide ((below_one w _).trans (hb1.mono (by simp)));have HO1:=hide (GR.own_lower (b':=w.heap.size+1) hown (by simp));have HR1:=hide (obj_step HRB hb1);clear hown hb1 HCL HRB;go_upto_region 2 with fail;refine wp_at (fun W1 hW1=>?_);have hbw:Below w1.heap.size w1 W1:=by rw [hW1];exact below_one w1 _
 have HN1:Hid (W1.heap[w1.heap.size]?=some (.cells (nnc id par (.slice ka kids.length kc) (.slice none 0 0)) 42 (0,0))):=by rw [hW1];exact heap_alloc_new _ _
 have HO2:=hide (GR.own_below HO1 hbw);have HR2:=hide (obj_step HR1 hbw);have HB2:=hide (HB1.trans (hbw.mono HB1.size));have HKL:Hid (∀x,(Value.slice ka kids.length kc).ownBlock=some x→x < w1.heap.size):=fun x hx=>(HO1.lt x hx).2
 have hrlt:=obj_lt HR1;clear hW1 hbw HR1 HO1 HB1;obtain⟨A1,hA1,hNA1⟩:=nodeAt_new (id:=id) (par:=par) (fs:=[]) (v:= .slice none 0 0) HO2 (World.ownsRow_nil W1 W1.heap.size 58 3);have HNB:=hide (implNeighbours (nnode id par kids []) A1 W1 (by show kids.length≤1048600;omega) hNA1.k);rw [←hA1] at HNB;have hln:(nbrs (nnode id par kids [])).length≤1048600:=by unfold nbrs nnode;dsimp only;split<;>simp<;>omega
 have HSL:=hide (srt_length (nbrs (nnode id par kids [])));have HFS:Hid (∀fs,fs=srt (nbrs (nnode id par kids []))→(placeB (nnode id par kids [])=true→newN id par kids=(nnode id par kids fs,true)∧ndOk (nnode id par kids fs)=true)∧(placeB (nnode id par kids [])=false→newN id par kids=(zeroNd,false)∧ndOk (nnode id par kids fs)=false)):=fun fs hf=>⟨fun h=>⟨new_yes h hf,ok_new id par kids fs h hf⟩,fun h=>⟨new_no h,ok_not id par kids fs h⟩⟩
 generalize srt (nbrs (nnode id par kids []))=F at *;generalize (nbrs (nnode id par kids [])).length=NL at *;generalize placeB (nnode id par kids [])=PB at *;rw [unhide HRN] at HFS;clear hA1 hNA1;obtain⟨c0,c1,c2,c3,c4,c5,c6,c7,c8⟩:=nine HN1;go_wp2_with fail;refine HNB.mono ?_;rintro e w2 ⟨fv,rfl,hfo,hb2⟩;have hFL:=unhide HSL;subst hFL;obtain⟨fa,fc,rfl,hF⟩:=GR.own_at (enc:=encNum) (sz:=1) encNum_length hfo;have HF:=hide hF;have HNN:=hide (show NN w2 w2 w1.heap.size id par (.slice ka kids.length kc) (.slice none 0 0) [] from⟨KeepsL.refl _ _,obj_step HN1 hb2,World.ownsRow_nil _ _ _ _,Nat.lt_of_lt_of_le (obj_lt HN1) hb2.size⟩);have HO3:=hide (GR.own_below HO2 hb2);have HR3:=hide (obj_step HR2 hb2);have HB3:=hide (HB2.trans (hb2.mono HB2.size));have hw12:w1.heap.size < w2.heap.size:=Nat.lt_of_lt_of_le (obj_lt HN1) hb2.size
 have HFN:Hid (∀x,fa=some x→x.block≠w1.heap.size):=fun x hx e=>by
  rcases hfo.2 with⟨h,_⟩|⟨g,cap,cur,hv,hg,_⟩
  ·injection h with h1
   rw [h1] at hx;cases hx
  ·injection hv with h1
   rw [h1] at hx;injection hx with hx
   have:=obj_lt HN1;rw [←hx] at e;dsimp only at e;omega
 clear hfo hb2 hF HNB HN1 c0 c1 c2 c3 c4 c5 c6 c7 c8 HR2 HO2 HB2 HSL;go_wp2_with fail;go_loopw [19] (fun i wr=>∃(k:Nat) (v:Value),k≤F.length∧i= .int .i64 k∧NN w2 wr w1.heap.size id par (.slice ka kids.length kc) v (F.take k)) (fun i _=>F.length - (intOf i).toNat)
 case atStart=>exact⟨0,.slice none 0 0,Nat.zero_le _,rfl,HNN⟩
 case round=>
  obtain⟨k,v,hk,rfl,hN⟩:=hrel;have HN:=hide hN;obtain⟨c0,c1,c2,c3,c4,c5,c6,c7,c8⟩:=nine hN.blk;have hkw:=hN.keep.size;clear hN;by_cases hlt:k < F.length
  ·have hFk:∃g off,fa=some ⟨g,off,none⟩∧g < wr.heap.size∧wr.cell? ⟨g,off+k,none⟩=some (.int .i64 F[k]):=by
    obtain⟨g,off,e,hg,hc⟩:=IntsAt.one HF k hlt;refine⟨g,off,e,by omega,?_⟩;have hne:=unhide HFN _ e;rw [←hc];exact World.cell?_of_block (w:=w2) (HN.keep.block g hg (by simpa using hne))
   obtain⟨g,off,e0,hg,q0⟩:=hFk;have HT:=hide (List.take_succ_eq_append_getElem hlt);have hln2:(F.take k).length=k:=by simp;omega
   have HLN2:=hide hln2;generalize F[k]=x at *;subst e0;have hown:=HN.own;have hf6:=obj_free HN.blk 6;clear hln2;go_wp2_with (at_builtin;refine wpList_append_own _ rfl _ _ 39 rfl w2.heap.size 58 i0 (.agg #[.int .i64 0,.int .i64 0,.slice none 0 0]) 3 40 Try.underlying39 hi hz0 hz1 hz2 rfl (by decide) _ _ _ rfl (hown.alloc _) ⟨wr.heap.size,0,none⟩ 1 1 (encR3 (r3of x)) rfl rfl ?c1 ?c2 ?c3 ?c4 ?c5 ?_)
   case c1=>exact World.news_of_block (heap_alloc_new wr _)
   case c2=>exact r3_one x
   case c3=>rw [unhide HLN2];unfold maxLen;omega
   case c4=>rw [unhide HLN2];omega
   case c5=>simp;omega
   intro v' w5 hown' hgrow _;have hown2:w5.ownsRow w2.heap.size 58 3 v' ((F.take k).length+1) (GR.flat encR3 ((F.take k).map r3of)++encR3 (r3of x)):=by rw [unhide HLN2,List.map_take];exact hown'
   obtain⟨va,vc,hv,_⟩:=GR.own_at (enc:=encR3) (sz:=3) (l:=(F.take k++[x]).map r3of) encR3_length (by
    have e2:GR.flat encR3 ((F.take k++[x]).map r3of)=GR.flat encR3 ((F.take k).map r3of)++encR3 (r3of x):=by rw [List.map_append,GR.flat_append];simp[GR.flat]
    rw [e2,List.length_map,List.length_append]
    exact hown2)
   rw [List.length_map,List.length_append,unhide HLN2] at hv;have hv':v'= .slice va (k+1) vc:=hv;clear hv;subst hv';have HA5:=hide (HN.app x hown2 hgrow)
   have hb5:w5.heap[w1.heap.size]?=some (.cells (nnc id par (.slice ka kids.length kc) v) 42 (0,0)):=by
    rw [hgrow.block w1.heap.size (by simp;omega) (fun e=>by have:=(hown.lt _ e.symm).1;omega),Below.heap_alloc _ _ _ (by omega)];exact HN.blk
   obtain⟨e0,e1,e2,e3,e4,e5,e6,e7,e8⟩:=nine hb5;have g6:=obj_free hb5 6;clear hown' hown2 hgrow hb5 hown c0 c1 c2 c3 c4 c5 c6 c7 c8 hf6;go_wp2_with fail;go_roundw
   case rel=>exact⟨k+1,.slice va (k+1) vc,by omega,by go_num,by rw [unhide HT];exact HA5⟩
   case measure=>simp[intOf];omega
  ·have hke:k=F.length:=by omega
   subst hke;have hnlt:decide ((F.length:Int) < (F.length:Int))=false:=by simp
   have hN2:=unhide HN;rw [List.take_length] at hN2;obtain⟨va,vc,hv,_⟩:=GR.own_at (enc:=encR3) (sz:=3) (l:=F.map r3of) encR3_length (by rw [List.length_map];exact hN2.own);rw [List.length_map] at hv;subst hv;have HN2:=hide hN2
   have HO4:Hid (wr.ownsRow (w.heap.size+1) 3 1 (.slice ka kids.length kc) kids.length (GR.flat encNum kids)):=HO3.kept (row:=some w1.heap.size) ⟨hN2.keep.os,hN2.keep.tape,hN2.keep.output,hN2.keep.size,fun j hj hjn=>hN2.keep.block j hj (fun e=>hjn (by rw [mem_one e]))⟩ (by
    cases hv:(Value.slice ka kids.length kc).ownBlock with
    |none=>exact .inl rfl
    |some j=>exact .inr (fun e=>by have:=unhide HKL j hv;injection e with e;omega))
   have HR4:Hid (wr.heap[w.heap.size]?=some (.cells zc9 42 (0,0))):=hN2.keep.obj HR3 (by simp;omega);have HB4:Hid (Below w.heap.size w wr):=HB3.trans (hN2.keep.below (fun x hx=>by have:=mem_one hx;omega) HB3.size);obtain⟨A4,hA4,hNA4⟩:=nodeAt_new (id:=id) (par:=par) HO4 hN2.own;have HOK:=hide (implNodeOk (nnode id par kids F) A4 wr (sz_new (by omega) (by omega)) hNA4);rw [←hA4] at HOK;obtain⟨hY,hX⟩:=unhide HFS F rfl;have HY:=hide hY;have HX:=hide hX;clear hN2 hA4 hNA4 hY hX HFS HN;generalize ndOk (nnode id par kids F)=OK at *;go_wp2_with fail;refine HOK.mono ?_;rintro e w5 ⟨rfl,hb5⟩;have HN5:=hide (HN2.step hb5);have HO5:=hide (GR.own_below HO4 hb5);have HR5:=hide (obj_step HR4 hb5);have HB5:=hide (HB4.trans (hb5.mono HB4.size));clear hb5 c0 c1 c2 c3 c4 c5 c6 c7 c8 HOK;obtain⟨c0,c1,c2,c3,c4,c5,c6,c7,c8⟩:=nine HN5.blk;obtain⟨r0,r1,r2,r3,r4,r5,r6,r7,r8⟩:=nine HR5;have f0:=obj_free HR5 0;have f1:=obj_free HR5 1;have f2:=obj_free HR5 2;have f3:=obj_free HR5 3;have f4:=obj_free HR5 4;have f5:=obj_free HR5 5;have f6:=obj_free HR5 6;have f7:=obj_free HR5 7;have f8:=obj_free HR5 8;cases hPB:PB
   ·obtain⟨e1,e2⟩:=unhide HX hPB;subst e1 e2;clear hPB HX HY;go_wp2_with fail;refine bodyPost_atN (fun W' hW'=>?_);have hR:=nine_set (b0:= .int .i64 0) (b1:= .int .i64 0) (b2:= .slice none 0 0) (b3:= .int .i64 0) (b4:= .slice none 0 0) (b5:= .slice none 0 0) (b6:= .slice none 0 0) (b7:= .int .i64 0) (b8:= .slice none 0 0) HR5;have hK:=nine_keeps (w:=w5) (g:=w.heap.size) (b0:= .int .i64 0) (b1:= .int .i64 0) (b2:= .slice none 0 0) (b3:= .int .i64 0) (b4:= .slice none 0 0) (b5:= .slice none 0 0) (b6:= .slice none 0 0) (b7:= .int .i64 0) (b8:= .slice none 0 0);rw [←hW'] at hR hK;obtain⟨x0,x1,x2,x3,x4,x5,x6,x7,x8⟩:=nine hR;refine bodyPost_ret (v:= .tuple #[ndv zeroNd ⟨none,none,none,none,none,0,0,0,0,0⟩,.bool false]) (by simp[results,Try.results19,go_sem,x0,x1,x2,x3,x4,x5,x6,x7,x8,zeroNd]) rfl ⟨_,rfl,⟨0,0,0,0,0,fun _=>0⟩,NodeW.zero.1,⟨(NodeW.zero (w:=W')).2.nodup,fun x hx=>absurd hx (by simp[Blks.all,zeroNd,fp,fpI])⟩,HB5.trans (hK.below (fun x hx=>by have:=mem_one hx;omega) HB5.size)⟩
   ·obtain⟨e1,e2⟩:=unhide HY hPB;subst e1 e2;clear hPB HX HY;go_wp2_with fail;refine bodyPost_atN (fun W' hW'=>?_);have hR:=nine_set (b0:= .int .i64 id) (b1:= .int .i64 par) (b2:=(.slice ka kids.length kc)) (b3:= .int .i64 1) (b4:= .slice none 0 0) (b5:= .slice none 0 0) (b6:= .slice va F.length vc) (b7:= .int .i64 0) (b8:= .slice none 0 0) HR5;have hK:=nine_keeps (w:=w5) (g:=w.heap.size) (b0:= .int .i64 id) (b1:= .int .i64 par) (b2:=(.slice ka kids.length kc)) (b3:= .int .i64 1) (b4:= .slice none 0 0) (b5:= .slice none 0 0) (b6:= .slice va F.length vc) (b7:= .int .i64 0) (b8:= .slice none 0 0);rw [←hW'] at hR hK;obtain⟨x0,x1,x2,x3,x4,x5,x6,x7,x8⟩:=nine hR;have hBW:=HB5.trans (hK.below (B:=w.heap.size) (fun x hx=>by have:=mem_one hx;omega) HB5.size);obtain⟨A9,G9,e9,hNW,hSP⟩:=NodeW.new (id:=id) (par:=par) HO5 (fun x hx=>by have:=unhide HKL x hx;omega) HN5.own (B2:=w2.heap.size) (by omega);have e9':=e9;unfold nnc at e9'
    have hN9:NodeW W' A9 G9 (nnode id par kids F):=hNW.keeps hK (fun x hx hx2=>by
     have h1:=hSP.rng x hx
     have h2:=mem_one hx2
     omega)
    refine bodyPost_ret (v:= .tuple #[ndv (nnode id par kids F) A9,.bool true]) (by rw [←e9];simp[results,Try.results19,go_sem,x0,x1,x2,x3,x4,x5,x6,x7,x8]) rfl ⟨_,rfl,G9,hN9,⟨hSP.nodup,fun x hx=>?_⟩,hBW⟩;have h1:=hSP.rng x hx;have h2:=hK.size;omega
set_option maxHeartbeats 2000000
def mSn (s:Nat) (x:Sn):Sn:=⟨(s:Int),(s:Int)+1,mks mkInt 1 (s+2) x.ids x.ids.length⟩
def eSn (s:Nat) (x:Sn):Nat:=s+2+x.ids.length
def mSeen:Nat→List Sn→List Sn
 |_,[]=>[]
 |s,x::r=>mSn s x::mSeen (eSn s x) r
def eSeen:Nat→List Sn→Nat
 |s,[]=>s
 |s,x::r=>eSeen (eSn s x) r
theorem mSeen_snoc (s:Nat) (l:List Sn) (x:Sn):mSeen s (l++[x])=mSeen s l++[mSn (eSeen s l) x]:=by
 induction l generalizing s with
 |nil=>rfl
 |cons y l ih=>simp[mSeen,eSeen,ih]
theorem eSeen_snoc (s:Nat) (l:List Sn) (x:Sn):eSeen s (l++[x])=eSn (eSeen s l) x:=by
 induction l generalizing s with
 |nil=>rfl
 |cons y l ih=>simp[eSeen,ih]
theorem mSeen_length (s:Nat) (l:List Sn):(mSeen s l).length=l.length:=by
 induction l generalizing s with
 |nil=>rfl
 |cons y l ih=>simp[mSeen,ih]
theorem mSn_ids (s:Nat) (x:Sn):(mSn s x).ids.length=x.ids.length:=mks_length mkInt 1 (s+2) x.ids x.ids.length (Nat.le_refl _)
theorem eSeen_le (s b:Nat) (l:List Sn) (h:∀x∈l,x.ids.length≤b):s≤eSeen s l∧eSeen s l≤s+l.length*(b+2):=by
 induction l generalizing s with
 |nil=>simp[eSeen]
 |cons y l ih=>
  have h1:=h y (by simp)
  have h2:=ih (eSn s y) (fun x hx=>h x (List.mem_cons_of_mem _ hx))
  simp only[eSeen,List.length_cons,Nat.add_mul,Nat.one_mul]
  unfold eSn at *
  omega
def mSk (s:Nat) (l:List Sn) (k:Nat):List Sn:=mSeen s (l.take k)++l.drop k
theorem mSk_length (s:Nat) (l:List Sn) (k:Nat) (hk:k≤l.length):(mSk s l k).length=l.length:=by simp[mSk,mSeen_length];omega
theorem mSk_zero (s:Nat) (l:List Sn):mSk s l 0=l:=rfl
theorem mSk_all (s:Nat) (l:List Sn):mSk s l l.length=mSeen s l:=by simp[mSk]
theorem mSk_at (s:Nat) (l:List Sn) (k:Nat) (hk:k < l.length):(mSk s l k)[k]'(by rw [mSk_length s l k (by omega)];exact hk)=l[k]:=by
 unfold mSk;have h1:(mSeen s (l.take k)).length=k:=by rw [mSeen_length];simp;omega
 rw [List.getElem_append_right (by omega)];simp[h1]
theorem mSk_set (s:Nat) (l:List Sn) (k:Nat) (hk:k < l.length):(mSk s l k).set k (mSn (eSeen s (l.take k)) l[k])=mSk s l (k+1):=by
 have h1:(mSeen s (l.take k)).length=k:=by rw [mSeen_length];simp;omega
 have e:l.drop k=l[k]::l.drop (k+1):=List.drop_eq_getElem_cons hk;unfold mSk;rw [e,List.set_append_right _ _ (by omega),h1,Nat.sub_self,List.set_cons_zero,List.take_succ_eq_append_getElem hk,mSeen_snoc,List.append_assoc];rfl
theorem fpI_congr {I:Nat→Nat} {l l':List Sn} (hl:l.length=l'.length) (h:∀i (h1:i < l.length) (h2:i < l'.length),l[i].ids.length=l'[i].ids.length):fpI I l=fpI I l':=by
 unfold fpI;rw [hl]
 have:∀i∈List.range l'.length,fp (I i) (l.getD i default).ids=fp (I i) (l'.getD i default).ids:=fun i hi=>by
  have h2:=List.mem_range.1 hi
  have h1:i < l.length:=by omega
  apply fp_len
  rw [List.getD_eq_getElem?_getD,List.getElem?_eq_getElem h1,List.getD_eq_getElem?_getD,List.getElem?_eq_getElem h2]
  exact h i h1 h2
 rw [List.flatMap_def,List.flatMap_def,List.map_congr_left this]
theorem SeenW.put {w:World} {a:Option Addr} {g:Nat} {I:Nat→Nat} {l:List Sn} (h:SeenW w a g I l) (k:Nat) (hk:k < l.length) (f lo:Int) (hne:∀x∈fpI I l,x≠g):
 SeenW ((w.setCell ⟨g,k*3,none⟩ (.int .i64 f)).setCell ⟨g,k*3+1,none⟩ (.int .i64 lo)) a g I (l.set k ⟨f,lo,l[k].ids⟩):=by
 obtain⟨T,hT,hl,hr⟩:=h;obtain⟨b,c,ht,hi2⟩:=hr k hk;have hkT:k < T.length:=by omega
 have htk:T[k]=⟨l[k].f,l[k].l,.slice b l[k].ids.length c⟩:=by
  rw [List.getElem?_eq_getElem hkT] at ht;exact Option.some.inj ht
 have hC:=((GR.W.toC encR3_length (by omega) hT).set (k*3) (.int .i64 f)).set (k*3+1) (.int .i64 lo);have hf:=GR.flat_set encR3 3 encR3_length T k ⟨f,lo,.slice b l[k].ids.length c⟩ hkT;have h3:(((GR.flat encR3 T).set (k*3) (.int .i64 f)).set (k*3+1) (.int .i64 lo)).set (k*3+2) (.slice b l[k].ids.length c)=GR.flat encR3 (T.set k ⟨f,lo,.slice b l[k].ids.length c⟩):=hf;have hat:=GR.flat_at encR3 3 encR3_length T k hkT 2 (by omega);rw [htk] at hat
 have h4:((GR.flat encR3 T).set (k*3) (.int .i64 f)).set (k*3+1) (.int .i64 lo)=GR.flat encR3 (T.set k ⟨f,lo,.slice b l[k].ids.length c⟩):=by
  rw [←h3];apply List.ext_getElem?
  intro j;by_cases hj:j=k*3+2
  ·subst hj;have hlt:k*3+2 < (GR.flat encR3 T).length:=by rw [GR.flat_length encR3 3 encR3_length];omega
   rw [List.getElem?_set_self (by simpa using hlt),List.getElem?_set_ne (by omega),List.getElem?_set_ne (by omega),hat];rfl
  ·rw [List.getElem?_set_ne (i:=k*3+2) (by omega)]
 rw [h4] at hC;have hK:KeepsL [g] w ((w.setCell ⟨g,k*3,none⟩ (.int .i64 f)).setCell ⟨g,k*3+1,none⟩ (.int .i64 lo)):=(KeepsL.set _).trans (KeepsL.set _);refine⟨T.set k ⟨f,lo,.slice b l[k].ids.length c⟩,GR.C.toW encR3_length (by omega) hC,by simpa using hl,fun i hi=>?_⟩;have hi':i < l.length:=by simpa using hi
 by_cases hik:i=k
 ·subst hik;refine⟨b,c,?_,?_⟩
  ·rw [List.getElem?_set_self hkT];simp
  ·rw [List.getElem_set_self];exact hi2.keeps hK (fun x hx=>by simpa using hne x (fpI_mem hi' x hx))
 ·obtain⟨b',c',ht',hi3⟩:=hr i hi';refine⟨b',c',?_,?_⟩
  ·rw [List.getElem?_set_ne (by omega),ht',List.getElem_set_ne (by omega)]
  ·rw [List.getElem_set_ne (by omega)];exact hi3.keeps hK (fun x hx=>by simpa using hne x (fpI_mem hi' x hx))
theorem fpI_diff {I:Nat→Nat} {l:List Sn} (hnd:(fpI I l).Nodup) {i k:Nat} (hi:i < l.length) (hk:k < l.length) (hik:i≠k) (h1:0 < l[i].ids.length) (h2:0 < l[k].ids.length):I i≠I k:=by
 intro he;have hd:∀j (hj:j < l.length),l.getD j default=l[j]:=fun j hj=>by rw [List.getD_eq_getElem?_getD,List.getElem?_eq_getElem hj];rfl
 have key:∀a b,a < b→b < l.length→0 < (l.getD a default).ids.length→0 < (l.getD b default).ids.length→I a≠I b:=by
  intro a b hab hb ha1 hb1 hI;unfold fpI at hnd
  have e1:List.range l.length=List.range b++(List.range (l.length - b)).map (b+·):=by
   rw [←List.range_add];congr 1
   omega
  rw [e1,List.flatMap_append,List.nodup_append] at hnd;refine hnd.2.2 (I a) ?_ (I b) ?_ hI
  ·rw [List.mem_flatMap];exact⟨a,List.mem_range.2 hab,fp_mem ha1⟩
  ·rw [List.mem_flatMap];exact⟨b,List.mem_map.2 ⟨0,List.mem_range.2 (by omega),by simp⟩,fp_mem hb1⟩
 rcases Nat.lt_or_gt_of_ne hik with h|h
 ·exact key i k h hk (by rw [hd i hi];exact h1) (by rw [hd k hk];exact h2) he
 ·exact key k i h hi (by rw [hd k hk];exact h2) (by rw [hd i hi];exact h1) he.symm
theorem SeenW.ids {w w':World} {a:Option Addr} {g:Nat} {I:Nat→Nat} {l:List Sn} (h:SeenW w a g I l) (k:Nat) (hk:k < l.length) (b:Option Addr) (c:Nat) (ids:List Int) (hb:w.cell? ⟨g,k*3+2,none⟩=some (.slice b l[k].ids.length c)) (hlen:ids.length=l[k].ids.length) (hw:GR.W encNum 1 w' b (I k) ids) (hK:KeepsL (fp (I k) l[k].ids) w w')
 (hne:∀x∈fpI I l,x≠g) (hnd:(fpI I l).Nodup):SeenW w' a g I (l.set k ⟨l[k].f,l[k].l,ids⟩):=by
 obtain⟨T,hT,hl,hr⟩:=h;have hkT:k < T.length:=by omega
 have hfpk:∀x∈fp (I k) l[k].ids,x∈fpI I l:=fpI_mem hk
 have hT':GR.W encR3 3 w' a g T:=hT.keeps hK (fun x hx hx2=>by
  rw [(of_fp hx).1] at hx2
  exact hne _ (hfpk _ hx2) rfl)
 refine⟨T,hT',by simpa using hl,fun i hi=>?_⟩;have hi':i < l.length:=by simpa using hi
 obtain⟨b',c',ht',hi3⟩:=hr i hi';by_cases hik:i=k
 ·subst hik;obtain⟨_,_,hc⟩:=hT i hkT;have h2:=(hc 2 (by omega)).1;rw [List.getElem?_eq_getElem hkT] at ht';rw [Option.some.inj ht'] at h2;have h2':w.cell? ⟨g,i*3+2,none⟩=some (.slice b' l[i].ids.length c'):=h2;rw [hb] at h2';injection h2' with h2'
  injection h2' with e1 e2 e3
  subst e1 e3;refine⟨b,c,?_,?_⟩
  ·rw [List.getElem?_eq_getElem hkT,Option.some.inj ht',List.getElem_set_self];simp[hlen]
  ·rw [List.getElem_set_self];exact hw
 ·refine⟨b',c',?_,?_⟩
  ·rw [ht',List.getElem_set_ne (by omega)]
  ·rw [List.getElem_set_ne (by omega)];refine hi3.keeps hK (fun x hx hx2=>?_);have e1:=(of_fp hx).1;have e2:=(of_fp hx2).1;have hIk:I i=I k:=by rw [←e1,←e2]
   exact fpI_diff hnd hi' hk hik (of_fp hx).2 (of_fp hx2).2 hIk
theorem markIntZ (a:Option Addr) (g c s:Nat) (z:Int) (l:List Int) (w:World) (hz:z=(s:Int)) (hs0:0 < s) (hs1:s≤4000000000000) (hl:l.length≤1048600) (ha:GR.W encNum 1 w a g l):
 Calls Try.prog 23 #[.slice a l.length c,.int .i64 z] w fun e w'=>e= .returned (.int .i64 (s+(l.length:Int)))∧GR.W encNum 1 w' a g (mks mkInt 1 s l l.length)∧KeepsL (fp g l) w w':=by
 subst hz;exact markIntG a g c s l w hs0 hs1 hl ha
theorem heldIntZ (a:Option Addr) (g c n s:Nat) (z:Int) (l:List Int) (w:World) (hz:z=(s:Int)) (hn:n=l.length) (hs0:0 < s) (hs1:s≤4000000000000) (hl:l.length≤1048600) (ha:GR.W encNum 1 w a g (mks mkInt 1 s l l.length)):
 Calls Try.prog 28 #[.slice a n c,.int .i64 z] w fun e w'=>e= .returned (.int .i64 (s+(l.length:Int)))∧Below w.heap.size w w':=by
 subst hz;exact heldIntG a g c n s l w hn hs0 hs1 hl ha
theorem mSeen_at (s:Nat) (l:List Sn) (k:Nat) (hk:k < l.length):(mSeen s l)[k]'(by rw [mSeen_length];exact hk)=mSn (eSeen s (l.take k)) l[k]:=by
 induction l generalizing s k with
 |nil=>simp at hk
 |cons y l ih=>
  cases k with
  |zero=>rfl
  |succ k=>
   simp only[mSeen,List.getElem_cons_succ,List.take_succ_cons,eSeen]
   exact ih (eSn s y) k (by simpa using hk)
theorem mSk_len (s:Nat) (l:List Sn) (k:Nat) (hk:k≤l.length):∀i (h1:i < (mSk s l k).length) (h2:i < l.length),((mSk s l k)[i]).ids.length=(l[i]).ids.length:=by
 induction k with
 |zero=>intro i h1 h2;rfl
 |succ k ih=>
  intro i h1 h2
  have hk':k < l.length:=by omega
  have e:=mSk_set s l k hk'
  have h3:i < ((mSk s l k).set k (mSn (eSeen s (l.take k)) l[k])).length:=by rw [e];exact h1
  have h4:(mSk s l (k+1))[i]=((mSk s l k).set k (mSn (eSeen s (l.take k)) l[k]))[i]'h3:=by simp only[e]
  rw [h4]
  by_cases hik:i=k
  ·subst hik;rw [List.getElem_set_self,mSn_ids]
  ·rw [List.getElem_set_ne (by omega)];exact ih (by omega) i (by simpa using h3) h2
theorem SeenW.three {w:World} {a:Option Addr} {g:Nat} {I:Nat→Nat} {l:List Sn} (h:SeenW w a g I l) (i:Nat) (hi:i < l.length):∃b c,a=some ⟨g,0,none⟩∧g < w.heap.size∧(w.cell? ⟨g,i*3,none⟩=some (.int .i64 l[i].f)∧w.cell? ⟨g,i*3+1,none⟩=some (.int .i64 l[i].l)∧w.cell? ⟨g,i*3+2,none⟩=some (.slice b l[i].ids.length c))∧(w.frozen? ⟨g,i*3,none⟩=false∧w.frozen? ⟨g,i*3+1,none⟩=false)∧GR.W encNum 1 w b (I i) l[i].ids:=by
 obtain⟨T,hT,hl,hr⟩:=h;obtain⟨b,c,ht,hi2⟩:=hr i hi;have hkT:i < T.length:=by omega
 obtain⟨e,hg,hc⟩:=hT i hkT;rw [List.getElem?_eq_getElem hkT] at ht;rw [Option.some.inj ht] at hc;exact⟨b,c,e,hg,⟨by simpa using(hc 0 (by omega)).1,by simpa using(hc 1 (by omega)).1,by simpa using(hc 2 (by omega)).1⟩,⟨by simpa using(hc 0 (by omega)).2,(hc 1 (by omega)).2⟩,hi2⟩
theorem markSeenG (a:Option Addr) (g c s:Nat) (I:Nat→Nat) (l:List Sn) (w:World) (hs0:0 < s) (hs1:s≤100000000) (hl:l.length≤1048600) (hl2:∀x∈l,x.ids.length≤1048600) (hnd:(fp g l++fpI I l).Nodup) (ha:SeenW w a g I l):
 Calls Try.prog 26 #[.slice a l.length c,.int .i64 s] w fun e w'=>e= .returned (.int .i64 (eSeen s l:Nat))∧SeenW w' a g I (mSeen s l)∧KeepsL (fp g l++fpI I l) w w':=by
 have HA:=hide ha;have HL2:=hide hl2;have HND:=hide (List.nodup_append.1 hnd);clear ha hl2 hnd;go_enter Try.func26,Try.ntmps26
 go_wp2_with fail;go_loopw [1,5] (fun kk i wr=>∃k m:Nat,k≤l.length∧i= .int .i64 k∧kk= .int .i64 m∧m=eSeen s (l.take k)∧SeenW wr a g I (mSk s l k)∧KeepsL (fp g l++fpI I l) w wr) (fun _ i _=>l.length - (intOf i).toNat)
 case atStart=>exact⟨0,s,Nat.zero_le _,rfl,rfl,rfl,by rw [mSk_zero];exact HA,KeepsL.refl _ _⟩
 case round=>
  open Sa51 in exact Ya16
theorem heldSeenG (a:Option Addr) (g c n s:Nat) (I:Nat→Nat) (l:List Sn) (w:World) (hn:n=l.length) (hs0:0 < s) (hs1:s≤100000000) (hl:l.length≤1048600) (hl2:∀x∈l,x.ids.length≤1048600) (ha:SeenW w a g I (mSeen s l)):
 Calls Try.prog 31 #[.slice a n c,.int .i64 s] w fun e w'=>e= .returned (.int .i64 (eSeen s l:Nat))∧Below w.heap.size w w':=by
 have HA:=hide ha;have HL2:=hide hl2;clear ha hl2;subst hn;go_enter Try.func31,Try.ntmps31
 go_wp2_with fail;go_loopw [1,5] (fun kk i wr=>∃k m:Nat,k≤l.length∧i= .int .i64 k∧kk= .int .i64 m∧m=eSeen s (l.take k)∧Below w.heap.size w wr) (fun _ i _=>l.length - (intOf i).toNat)
 case atStart=>exact Za19
 case round=>
  open Sa56 in exact Ya17
def sP (n:Nd):Nat:=1+n.kids.length
def sO (n:Nd):Nat:=sP n+4*n.pu.length
def sS (n:Nd):Nat:=sO n+4*n.out.length
def sR (n:Nd):Nat:=eSeen (sS n) n.seen
def eNode (n:Nd):Nat:=sR n+4*n.reqs.length
def mNode (n:Nd):Nd:=⟨n.id,n.par,mks mkInt 1 1 n.kids n.kids.length,n.next,mks mkPurse 4 (sP n) n.pu n.pu.length,mks mkSent 4 (sO n) n.out n.out.length,mSeen (sS n) n.seen,n.old,mks mkReq 4 (sR n) n.reqs n.reqs.length⟩
theorem node_bds {n:Nd} (hz:NdSz n 1048600):0 < sP n∧sP n≤10000000∧0 < sO n∧sO n≤50000000∧0 < sS n∧sS n≤100000000∧0 < sR n∧sR n≤3000000000000:=by
 have h:=eSeen_le (sS n) 1048600 n.seen hz.sk;have h1:=hz.k;have h2:=hz.p;have h3:=hz.o;have h4:=hz.s;unfold sR;generalize eSeen (sS n) n.seen=z at *;unfold sS sO sP at *;omega
theorem markPurseZ (a:Option Addr) (g c s:Nat) (z:Int) (l:List Pu) (w:World) (hz:z=(s:Int)) (hs0:0 < s) (hs1:s≤4000000000000) (hl:l.length≤1048600) (ha:GR.W encP 4 w a g l):
 Calls Try.prog 24 #[.slice a l.length c,.int .i64 z] w fun e w'=>e= .returned (.int .i64 (s+4*(l.length:Int)))∧GR.W encP 4 w' a g (mks mkPurse 4 s l l.length)∧KeepsL (fp g l) w w':=by
 subst hz;exact markPurseG a g c s l w hs0 hs1 hl ha
theorem markSentZ (a:Option Addr) (g c s:Nat) (z:Int) (l:List Snt) (w:World) (hz:z=(s:Int)) (hs0:0 < s) (hs1:s≤4000000000000) (hl:l.length≤1048600) (ha:GR.W encSnt 4 w a g l):
 Calls Try.prog 25 #[.slice a l.length c,.int .i64 z] w fun e w'=>e= .returned (.int .i64 (s+4*(l.length:Int)))∧GR.W encSnt 4 w' a g (mks mkSent 4 s l l.length)∧KeepsL (fp g l) w w':=by
 subst hz;exact markSentG a g c s l w hs0 hs1 hl ha
theorem markReqZ (a:Option Addr) (g c s:Nat) (z:Int) (l:List Rq) (w:World) (hz:z=(s:Int)) (hs0:0 < s) (hs1:s≤4000000000000) (hl:l.length≤1048600) (ha:GR.W encRq 4 w a g l):
 Calls Try.prog 27 #[.slice a l.length c,.int .i64 z] w fun e w'=>e= .returned (.int .i64 (s+4*(l.length:Int)))∧GR.W encRq 4 w' a g (mks mkReq 4 s l l.length)∧KeepsL (fp g l) w w':=by
 subst hz;exact markReqG a g c s l w hs0 hs1 hl ha
theorem markSeenZ (a:Option Addr) (g c s:Nat) (z:Int) (I:Nat→Nat) (l:List Sn) (w:World) (hz:z=(s:Int)) (hs0:0 < s) (hs1:s≤100000000) (hl:l.length≤1048600) (hl2:∀x∈l,x.ids.length≤1048600) (hnd:(fp g l++fpI I l).Nodup) (ha:SeenW w a g I l):
 Calls Try.prog 26 #[.slice a l.length c,.int .i64 z] w fun e w'=>e= .returned (.int .i64 (eSeen s l:Nat))∧SeenW w' a g I (mSeen s l)∧KeepsL (fp g l++fpI I l) w w':=by
 subst hz;exact markSeenG a g c s I l w hs0 hs1 hl hl2 hnd ha
theorem heldPurseZ (a:Option Addr) (g c n s:Nat) (z:Int) (l:List Pu) (w:World) (hz:z=(s:Int)) (hn:n=l.length) (hs0:0 < s) (hs1:s≤4000000000000) (hl:l.length≤1048600) (ha:GR.W encP 4 w a g (mks mkPurse 4 s l l.length)):
 Calls Try.prog 29 #[.slice a n c,.int .i64 z] w fun e w'=>e= .returned (.int .i64 (s+4*(l.length:Int)))∧Below w.heap.size w w':=by
 subst hz;exact heldPurseG a g c n s l w hn hs0 hs1 hl ha
theorem heldSentZ (a:Option Addr) (g c n s:Nat) (z:Int) (l:List Snt) (w:World) (hz:z=(s:Int)) (hn:n=l.length) (hs0:0 < s) (hs1:s≤4000000000000) (hl:l.length≤1048600) (ha:GR.W encSnt 4 w a g (mks mkSent 4 s l l.length)):
 Calls Try.prog 30 #[.slice a n c,.int .i64 z] w fun e w'=>e= .returned (.int .i64 (s+4*(l.length:Int)))∧Below w.heap.size w w':=by
 subst hz;exact heldSentG a g c n s l w hn hs0 hs1 hl ha
theorem heldReqZ (a:Option Addr) (g c n s:Nat) (z:Int) (l:List Rq) (w:World) (hz:z=(s:Int)) (hn:n=l.length) (hs0:0 < s) (hs1:s≤4000000000000) (hl:l.length≤1048600) (ha:GR.W encRq 4 w a g (mks mkReq 4 s l l.length)):
 Calls Try.prog 32 #[.slice a n c,.int .i64 z] w fun e w'=>e= .returned (.int .i64 (s+4*(l.length:Int)))∧Below w.heap.size w w':=by
 subst hz;exact heldReqG a g c n s l w hn hs0 hs1 hl ha
theorem heldSeenZ (a:Option Addr) (g c n s:Nat) (z:Int) (I:Nat→Nat) (l:List Sn) (w:World) (hz:z=(s:Int)) (hn:n=l.length) (hs0:0 < s) (hs1:s≤100000000) (hl:l.length≤1048600) (hl2:∀x∈l,x.ids.length≤1048600) (ha:SeenW w a g I (mSeen s l)):
 Calls Try.prog 31 #[.slice a n c,.int .i64 z] w fun e w'=>e= .returned (.int .i64 (eSeen s l:Nat))∧Below w.heap.size w w':=by
 subst hz;exact heldSeenG a g c n s I l w hn hs0 hs1 hl hl2 ha
theorem fp_mks {α:Type} {mk:Nat→α} {c s g x:Nat} {l:List α} (h:x∈fp g (mks mk c s l l.length)):x∈fp g l:=by
 rw [fp_len (mks_length mk c s l l.length (Nat.le_refl _))] at h;exact h
theorem fp_mS {s g x:Nat} {l:List Sn} (h:x∈fp g (mSeen s l)):x∈fp g l:=by
 rw [fp_len (mSeen_length s l)] at h;exact h
theorem fpI_mS {I:Nat→Nat} {s x:Nat} {l:List Sn} (h:x∈fpI I (mSeen s l)):x∈fpI I l:=by
 rw [fpI_congr (mSeen_length s l) (fun i h1 h2=>by rw [mSeen_at s l i h2,mSn_ids])] at h;exact h
theorem SeenW.below {w w':World} {a:Option Addr} {g:Nat} {I:Nat→Nat} {l:List Sn} (h:SeenW w a g I l) (hb:Below w.heap.size w w'):SeenW w' a g I l:=h.keeps (F:=[]) (KeepsL.of_below hb) (fun _ _=>by simp) (fun _ _=>by simp)
theorem W_lt {α:Type} {enc:α→List Value} {sz:Nat} {w:World} {a:Option Addr} {g:Nat} {l:List α} (h:GR.W enc sz w a g l):∀x∈fp g l,x < w.heap.size:=fun x hx=>by
 rw [(of_fp hx).1];exact(h 0 (of_fp hx).2).2.1
theorem SeenW_lt {w:World} {a:Option Addr} {g:Nat} {I:Nat→Nat} {l:List Sn} (h:SeenW w a g I l):∀x∈fp g l++fpI I l,x < w.heap.size:=fun x hx=>by
 obtain⟨T,hT,hl,hr⟩:=h;rcases List.mem_append.1 hx with hx|hx
 ·rw [(of_fp hx).1];exact(hT 0 (by have:=(of_fp hx).2;omega)).2.1
 ·obtain⟨i,hi,rfl,hp⟩:=of_fpI hx;obtain⟨b,c,_,hi2⟩:=hr i hi;exact(hi2 0 hp).2.1
end Go.Proofs.Ytheiblbhlmaphaa
